import Derived.Test.YtialndpejechbaaOpenB
import Derived.Test.YtialndpejechbaaLWLine
namespace Go.Proofs.Ytialndpejechbaa
open Go.ChangeShapes Go.WideShapes Go.ChangeAt Go.RowKit Go.Deep
set_option linter.unusedVariables false
set_option linter.unusedSimpArgs false
section
variable {H : Type} {enc : TypeId × Value → H} {W : World}

/-- Signed bytes that came in. -/
theorem open_i8s {fuel : Nat} {cs : List Value} {x : DataW H × List MemPlace} (h : DataW.trod enc Try.prog W 0 (fun _ => true) true fuel 58 cs = some x) (hB : Rows.uptoBulk x.1 ≤ 1048576) :
    ∃ v zs, cs = [v] ∧ RdI8 W v zs ∧ zs.length ≤ 1048576 := by
  rcases open_ints Try.underlying58 Try.underlying59 (by kernel_rfl) h with ⟨rfl, rfl⟩ | ⟨a, len, cap, zs, rfl, _, hl, hm, hz, rfl, hcell, hwz⟩
  · exact ⟨_, [], rfl, ⟨none, 0, rfl, Nat.le_refl _, by omega, fun h => by simp at h⟩, by simp⟩
  · have h2 : (lits (H := H) .i8 (zs.take len)).length = len := by simp only [lits, List.length_map, List.length_take]; simp at hz; omega
    have hbl : (zs.take len).length = len := by simp at hz; simp; omega
    have hlb : len ≤ 1048576 := by simp only [Rows.uptoBulk] at hB; have := bulk_len (lits (H := H) .i8 (zs.take len)); omega
    refine ⟨_, zs.take len, rfl, ⟨_, _, by rw [hbl], by omega, by unfold maxLen at hm; omega, ?_⟩, by omega⟩
    intro hp
    rw [hbl] at hp
    simp at hz
    have hc0 := hcell 0 (by omega)
    obtain ⟨b, off, spot⟩ := a
    have hspot : spot = none := by simpa [Addr.add] using World.cell?_spot hc0
    subst hspot
    refine ⟨b, off, rfl, fun i hi => ?_⟩
    rw [hbl] at hi
    have hc := hcell i (by omega)
    have hzi : i < zs.length := by omega
    rw [Addr.add_mid] at hc
    rw [hc]
    simp only [List.getD_eq_getElem?_getD, List.getElem?_eq_getElem hzi, Option.getD_some, List.getElem?_take, hi, if_true]
end
end Go.Proofs.Ytialndpejechbaa
