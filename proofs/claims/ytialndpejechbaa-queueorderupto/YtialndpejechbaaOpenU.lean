import Derived.Test.YtialndpejechbaaOpenB
import Derived.Test.YtialndpejechbaaLQOrd0
import Derived.Deep.Grids
namespace Go.Proofs.Ytialndpejechbaa
open Go.ChangeShapes Go.WideShapes Go.ChangeAt Go.RowKit Go.Deep
set_option linter.unusedVariables false
set_option linter.unusedSimpArgs false
section
variable {H : Type} {enc : TypeId × Value → H} {W : World}

/-- Truths that came in. -/
theorem open_boolsU {fuel : Nat} {cs : List Value} {x : DataW H × List MemPlace} (h : DataW.trod enc Try.prog W 0 (fun _ => true) true fuel 37 cs = some x) (hB : Rows.uptoBulk x.1 ≤ 1048576) :
    ∃ v bs, cs = [v] ∧ RdBo W v bs ∧ bs.length ≤ 1048576 := by
  rcases open_bools Try.underlying37 Try.underlying4 (by kernel_rfl) h with ⟨rfl, rfl⟩ | ⟨a, len, cap, B, rfl, _, hl, hm, rfl, hcell⟩
  · exact ⟨_, [], rfl, ⟨none, 0, rfl, Nat.le_refl _, by omega, fun h => by simp at h⟩, by simp⟩
  · have hlb : len ≤ 1048576 := by
      simp only [boolRow, Rows.uptoBulk] at hB
      have := bulk_len (H := H) ((List.range len).map fun i => .lit (.bool (B i)))
      simp at this
      omega
    refine ⟨_, (List.range len).map B, rfl, ⟨some a, cap, by simp, by simpa using hl, by unfold maxLen at hm; omega, ?_⟩, by simpa using hlb⟩
    intro hp
    simp at hp
    have hc0 := hcell 0 (by omega)
    obtain ⟨b, off, spot⟩ := a
    have hspot : spot = none := by simpa [Addr.add] using World.cell?_spot hc0
    subst hspot
    refine ⟨b, off, rfl, fun i hi => ?_⟩
    simp at hi
    have hc := hcell i (by omega)
    rw [Addr.add_mid] at hc
    simpa [List.getD_eq_getElem?_getD, hi] using hc
end
end Go.Proofs.Ytialndpejechbaa
