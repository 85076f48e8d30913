import Derived.Test.YtclgblilgpfllabNFn
namespace Go.Proofs.Ytclgblilgpfllab
open Go.RowKit Go.BigFrame
set_option linter.unusedVariables false
set_option linter.unusedSimpArgs false

abbrev iv (n : Nat) : Value := .int .i64 (n : Int)
theorem iv_one (bs : List Nat) : ∀ v ∈ bs.map iv, v.oneCell' = true := by
  intro v hv; obtain ⟨x, _, rfl⟩ := List.mem_map.1 hv; rfl

theorem Try.infoI : (Try.prog.info? 3).map (fun i => (i.zero, i.size, i.bytes)) = some (some (.int .i64 0), 1, 8) := by kernel_rfl

/-- The slice value v reads as the numbers xs. -/
def RdZ (w : World) (v : Value) (xs : List Nat) : Prop :=
  ∃ (ao : Option Addr) (cap : Nat), v = .slice ao xs.length cap ∧ xs.length ≤ cap ∧ cap ≤ 9223372036854775807 ∧
    (0 < xs.length → ∃ b off, ao = some ⟨b, off, none⟩ ∧ ∀ i, i < xs.length → w.cell? ⟨b, off + i, none⟩ = some (iv (xs.getD i 0)))
theorem RdZ.old {w0 w : World} {v : Value} {xs : List Nat} (h : RdZ w0 v xs) (k : Kept [] w0 w) : RdZ w v xs := by
  obtain ⟨ao, cap, rfl, h1, h2, h3⟩ := h
  refine ⟨ao, cap, rfl, h1, h2, fun hp => ?_⟩
  obtain ⟨b, off, rfl, hc⟩ := h3 hp
  exact ⟨b, off, rfl, fun i hi => k.cell (hc i hi) (by simp)⟩
/-- Numbers in memory of their own. -/
structure OwnZ (w0 w : World) (v : Value) (xs : List Nat) : Prop where
  own : w.ownsRow w0.heap.size 3 1 v xs.length (xs.map iv)
  kept : Kept [] w0 w
theorem OwnZ.start {w0 w : World} (k : Kept [] w0 w) : OwnZ w0 w (.slice none 0 0) [] := ⟨World.ownsRow_nil _ _ _ _, k⟩
theorem OwnZ.pass {w0 w w' : World} {v : Value} {xs : List Nat} (h : OwnZ w0 w v xs) (k : Kept [] w w') : OwnZ w0 w' v xs := ⟨k.owns h.own (by simp), h.kept.trans k (by simp)⟩
theorem OwnZ.rd {w0 w : World} {v : Value} {xs : List Nat} (h : OwnZ w0 w v xs) : RdZ w v xs := by
  rcases h.own.2 with ⟨rfl, h0⟩ | ⟨g, cap, cur, rfl, _, hg, hc, hm', hs, ht⟩
  · have : xs = [] := List.eq_nil_of_length_eq_zero h0
    subst this
    exact ⟨none, 0, rfl, Nat.le_refl _, by omega, fun h => by simp at h⟩
  · refine ⟨some ⟨g, 0, none⟩, cap, rfl, hc, by unfold maxLen at hm'; omega, fun _ => ⟨g, 0, rfl, fun i hi => ?_⟩⟩
    have c1 := h.own.cells (g := g) rfl i (iv (xs.getD i 0)) (by rw [List.getElem?_map, List.getD_eq_getElem?_getD, List.getElem?_eq_getElem hi]; rfl)
    rw [Addr.add_mid] at c1
    exact c1

end Go.Proofs.Ytclgblilgpfllab
