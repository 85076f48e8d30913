import Derived.Test.YtbbjbpjpejekgaaLay
namespace Go.Proofs.Ytbbjbpjpejekgaa
open Go.RowKit
set_option linter.unusedVariables false
set_option linter.unusedSimpArgs false

/-- An Op, as data: its slice's value and the bytes that it reads as. -/
structure OpD where
  k : Int
  x : Nat
  n : Int
  pv : Value
  p : List Nat

/-- The bytes of a script. -/
def scriptB (ops : List OpD) : List Nat := ops.flatMap fun o => layB o.k o.x o.p

/-- A slice of Ops, as it lies in w. -/
def SRd (w : World) (v : Value) (ops : List OpD) : Prop :=
  ∃ (ao : Option Addr) (cap : Nat), v = .slice ao ops.length cap ∧ ops.length ≤ cap ∧ cap ≤ 9223372036854775807 ∧ ops.length ≤ 140737488355328 ∧
    (∀ o ∈ ops, o.x < 18446744073709551616 ∧ -9223372036854775808 ≤ o.k ∧ o.k ≤ 9223372036854775807 ∧ -9223372036854775808 ≤ o.n ∧ o.n ≤ 9223372036854775807 ∧ Rd w o.pv o.p) ∧
    (0 < ops.length → ∃ b off, ao = some ⟨b, off, none⟩ ∧ ∀ i o, ops[i]? = some o →
      w.cell? ⟨b, off + i * 4, none⟩ = some (.int .i64 o.k) ∧ w.cell? ⟨b, off + i * 4 + 1, none⟩ = some (.int .u64 o.x) ∧ w.cell? ⟨b, off + i * 4 + 2, none⟩ = some (.int .i64 o.n) ∧ w.cell? ⟨b, off + i * 4 + 3, none⟩ = some o.pv)

theorem SRd.old {L : List Nat} {w0 w : World} {v : Value} {ops : List OpD} (h : SRd w0 v ops) (k : Kept L w0 w) (hL : ∀ x ∈ L, w0.heap.size ≤ x) : SRd w v ops := by
  obtain ⟨ao, cap, rfl, h1, h2, h2', h3, h4⟩ := h
  refine ⟨ao, cap, rfl, h1, h2, h2', fun o ho => ?_, fun hp => ?_⟩
  · obtain ⟨a1, a2, a3, a4, a5, a6⟩ := h3 o ho
    exact ⟨a1, a2, a3, a4, a5, a6.old k hL⟩
  · obtain ⟨b, off, rfl, hc⟩ := h4 hp
    refine ⟨b, off, rfl, fun i o ho => ?_⟩
    obtain ⟨c0, c1, c2, c3⟩ := hc i o ho
    have hb : b ∉ L := fun hm => by have h7 := block_lt_of_cell c0; have h8 := hL b hm; simp at h7; omega
    exact ⟨k.cell c0 hb, k.cell c1 hb, k.cell c2 hb, k.cell c3 hb⟩

/-- A Writer that was made behind a turns nothing that was there at a. -/
theorem Kept.wr {b : Nat} {v : Value} {a w w' : World} (k : Kept [] a w) (h : Kept (b :: v.ownBlock.toList) w w') (hb : a.heap.size ≤ b) (hv : ∀ g, v.ownBlock = some g → a.heap.size ≤ g) : Kept [] a w' :=
  k.trans h (by intro x hx; right; simp only [List.mem_cons, Option.mem_toList] at hx; rcases hx with rfl | hx; exact hb; exact hv x hx)

theorem scriptB_append (a b : List OpD) : scriptB (a ++ b) = scriptB a ++ scriptB b := by simp [scriptB]
theorem scriptB_take_succ {ops : List OpD} {k : Nat} {o : OpD} (h : ops[k]? = some o) : scriptB (ops.take (k + 1)) = scriptB (ops.take k) ++ layB o.k o.x o.p := by
  obtain ⟨hk, rfl⟩ := List.getElem?_eq_some_iff.1 h
  rw [List.take_succ_eq_append_getElem hk, scriptB_append]; simp [scriptB]
theorem scriptB_le {ops : List OpD} (k : Nat) : (scriptB (ops.take k)).length ≤ (scriptB ops).length := by
  have h : scriptB ops = scriptB (ops.take k) ++ scriptB (ops.drop k) := by rw [← scriptB_append, List.take_append_drop]
  rw [h]; simp

end Go.Proofs.Ytbbjbpjpejekgaa
