import Derived.Test.YtnepbjnemgebiabOpenP
import Derived.Test.YtnepbjnemgebiabLRun0
import Derived.Deep.Slices
namespace Go.Proofs.Ytnepbjnemgebiab
open Go.ChangeShapes Go.WideShapes Go.ChangeAt Go.RowKit Go.Deep
set_option linter.unusedVariables false
set_option linter.unusedSimpArgs false
section
variable {H : Type} {enc : TypeId × Value → H} {W : World}

theorem q_bulk_part {d : DataW H} {l : List (DataW H)} (h : d ∈ l) : Rows.uptoBulk d ≤ Rows.uptoBulkAll l := by
  induction l with
  | nil => cases h
  | cons x r ih =>
    simp only [Rows.uptoBulkAll]
    cases List.mem_cons.1 h with
    | inl e => subst e; omega
    | inr e => have := ih e; omega
theorem q_flat_bulk (f : Nat → Nat × List Nat) (D : Nat → DataW H) (l : List Nat) (h : ∀ i ∈ l, (f i).2.length + 2 ≤ Rows.uptoBulk (D i)) : pwt (l.map f) ≤ Rows.uptoBulkAll (l.map D) := by
  induction l with
  | nil => simp [pwt]
  | cons a l ih =>
    have h1 := h a (by simp)
    have h2 := ih (fun i hi => h i (by simp [hi]))
    simp only [pwt, List.map_cons, List.sum_cons, Rows.uptoBulkAll] at h2 ⊢
    omega

/-- Pieces that came in. -/
theorem open_pieces {fuel : Nat} {cs : List Value} {x : DataW H × List MemPlace} (h : DataW.trod enc Try.prog W 0 (fun _ => true) true fuel 43 cs = some x) (hB : Rows.uptoBulk x.1 ≤ 1048576) :
    ∃ v ps, cs = [v] ∧ RdP W v ps ∧ pwt ps ≤ Rows.uptoBulk x.1 := by
  rcases open_slice Try.underlying43 h with ⟨rfl, rfl⟩ | ⟨a, len, cap, m, n, D, Pl, rfl, _, hl, hm, hmm, rfl, hx⟩
  · exact ⟨_, [], rfl, ⟨none, 0, 0, [], rfl, rfl, rfl, Nat.le_refl _, by omega, fun i h => by omega, fun h => by omega⟩, by simp [pwt]⟩
  · have hC : Try.prog.cellsOf 25 = 2 := by kernel_rfl
    rw [hC] at hx
    simp only [if_true] at hmm
    simp only [Rows.uptoBulk] at hB
    obtain ⟨f, hf⟩ := choose_lt (α := Value × (Nat × List Nat)) (n := len) (p := fun i o => (W.cell? (a.add (i * 2)) = some (.int .u64 (o.2.1 : Int)) ∧ W.cell? ((a.add (i * 2)).add 1) = some o.1) ∧ (Rd W o.1 o.2.2 ∧ o.2.1 < 18446744073709551616) ∧ o.2.2.length + 2 ≤ Rows.uptoBulk (D i)) (by
      intro i hi
      obtain ⟨cs', h1, h2⟩ := hx i (by omega)
      have hDi : Rows.uptoBulk (D i) ≤ Rows.uptoBulkAll ((List.range len).map D) := q_bulk_part (List.mem_map.2 ⟨i, List.mem_range.2 hi, rfl⟩)
      obtain ⟨pl, v, bs, rfl, hpl, hr, hb⟩ := open_piece h2 (by simp only; omega)
      obtain ⟨_, hlen, hc⟩ := World.cells?_some h1
      have hc0 := hc 0 (by omega)
      have hc1 := hc 1 (by omega)
      have e : (a.add (i * 2)).add 0 = a.add (i * 2) := by simp [Addr.add]
      rw [e] at hc0
      exact ⟨(v, (pl, bs)), ⟨hc0, hc1⟩, ⟨hr, hpl⟩, hb⟩)
    refine ⟨_, (List.range len).map fun i => (f i).2, rfl, ⟨some a, len, cap, (List.range len).map fun i => (f i).1, rfl, by simp, by simp, hl, by unfold maxLen at hm; omega, ?_, ?_⟩, ?_⟩
    · intro i hi
      have hc := (hf i hi).2.1
      simpa [List.getD_eq_getElem?_getD, hi] using hc
    · intro hp
      obtain ⟨b, off, spot⟩ := a
      have hc0 := (hf 0 hp).1.1
      have hspot : spot = none := by simpa [Addr.add] using World.cell?_spot hc0
      subst hspot
      refine ⟨b, off, rfl, fun i hi => ?_⟩
      have hc := (hf i hi).1
      rw [Addr.add_mid, Addr.add_mid] at hc
      simpa [List.getD_eq_getElem?_getD, hi] using hc
    · have := q_flat_bulk (fun i => (f i).2) D (List.range len) (fun i hi => (hf i (List.mem_range.1 hi)).2.2)
      simp only [Rows.uptoBulk]
      omega
end
end Go.Proofs.Ytnepbjnemgebiab
