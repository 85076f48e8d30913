import Derived.Test.YtialndpejechbaaOpenB
import Derived.Test.YtialndpejechbaaDSum
import Derived.Deep.Slices
namespace Go.Proofs.Ytialndpejechbaa
open Go.ChangeShapes Go.WideShapes Go.ChangeAt Go.RowKit Go.Deep
set_option linter.unusedVariables false
set_option linter.unusedSimpArgs false
section
variable {H : Type} {enc : TypeId × Value → H} {W : World}

theorem l_bulk_part {d : DataW H} {l : List (DataW H)} (h : d ∈ l) : Rows.uptoBulk d ≤ Rows.uptoBulkAll l := by
  induction l with
  | nil => cases h
  | cons x r ih =>
    simp only [Rows.uptoBulkAll]
    cases List.mem_cons.1 h with
    | inl e => subst e; omega
    | inr e => have := ih e; omega
theorem flat_bulk (f : Nat → List Nat) (D : Nat → DataW H) (l : List Nat) (h : ∀ i ∈ l, (f i).length + 1 ≤ Rows.uptoBulk (D i)) : (l.map f).flatten.length + l.length ≤ Rows.uptoBulkAll (l.map D) := by
  induction l with
  | nil => simp [Rows.uptoBulkAll]
  | cons a l ih =>
    have h1 := h a (by simp)
    have h2 := ih (fun i hi => h i (by simp [hi]))
    simp only [List.map_cons, List.flatten_cons, List.length_append, List.length_cons, Rows.uptoBulkAll] at h2 ⊢
    omega

/-- Lists of bytes that came in. -/
theorem open_lists {fuel : Nat} {cs : List Value} {x : DataW H × List MemPlace} (h : DataW.trod enc Try.prog W 0 (fun _ => true) true fuel 36 cs = some x) (hB : Rows.uptoBulk x.1 ≤ 1048576) :
    ∃ v ps, cs = [v] ∧ RdL W v ps ∧ ps.flatten.length ≤ 1048576 ∧ ps.length ≤ 1048576 := by
  rcases open_slice Try.underlying36 h with ⟨rfl, rfl⟩ | ⟨a, len, cap, m, n, D, Pl, rfl, _, hl, hm, hmm, rfl, hx⟩
  · exact ⟨_, [], rfl, ⟨none, 0, 0, [], rfl, rfl, rfl, Nat.le_refl _, by omega, fun h => by omega, fun i h => by omega⟩, by simp, by simp⟩
  · have hC : Try.prog.cellsOf 41 = 1 := by kernel_rfl
    rw [hC] at hx
    simp only [if_true] at hmm
    simp only [Rows.uptoBulk] at hB
    have hlb : len ≤ 1048576 := by have := bulk_len ((List.range len).map D); simp at this; omega
    obtain ⟨f, hf⟩ := choose_lt (α := Value × List Nat) (n := len) (p := fun i o => W.cell? (a.add i) = some o.1 ∧ Rd W o.1 o.2 ∧ o.2.length + 1 ≤ Rows.uptoBulk (D i)) (by
      intro i hi
      obtain ⟨cs', h1, h2⟩ := hx i (by omega)
      have hDi : Rows.uptoBulk (D i) ≤ Rows.uptoBulkAll ((List.range len).map D) := l_bulk_part (List.mem_map.2 ⟨i, List.mem_range.2 hi, rfl⟩)
      obtain ⟨v, bs, rfl, hr, hb⟩ := open_bytes h2
      have hb2 := bulk_bytes hb
      obtain ⟨_, hlen, hc⟩ := World.cells?_some h1
      have hc0 := hc 0 (by omega)
      have e : (a.add (i * 1)).add 0 = a.add i := by rw [Nat.mul_one]; simp [Addr.add]
      rw [e] at hc0
      exact ⟨(v, bs), hc0, hr (by simp only at hb2; omega), hb2⟩)
    refine ⟨_, (List.range len).map fun i => (f i).2, rfl, ⟨some a, len, cap, (List.range len).map fun i => (f i).1, rfl, by simp, by simp, hl, by unfold maxLen at hm; omega, ?_, ?_⟩, ?_, by simpa using hlb⟩
    · intro hp
      obtain ⟨b, off, spot⟩ := a
      have hc0 := (hf 0 hp).1
      have hspot : spot = none := by simpa [Addr.add] using World.cell?_spot hc0
      subst hspot
      refine ⟨b, off, rfl, fun i hi => ?_⟩
      have hc := (hf i hi).1
      rw [Addr.add_mid] at hc
      rw [hc]
      simp [List.getD_eq_getElem?_getD, hi]
    · intro i hi
      have hc := (hf i hi).2.1
      simpa [List.getD_eq_getElem?_getD, hi] using hc
    · have := flat_bulk (fun i => (f i).2) D (List.range len) (fun i hi => (hf i (List.mem_range.1 hi)).2.2)
      simp only [List.length_range] at this
      omega
end
end Go.Proofs.Ytialndpejechbaa
