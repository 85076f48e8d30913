import Derived.Test.YtkcanelboloihaaOpenD
import Derived.Test.YtkcanelboloihaaERoot
import Derived.Deep.Slices
namespace Go.Proofs.Ytkcanelboloihaa
open Go.ChangeShapes Go.WideShapes Go.ChangeAt Go.RowKit Go.Deep
set_option linter.unusedVariables false
set_option linter.unusedSimpArgs false
section
variable {H : Type} {enc : TypeId × Value → H} {W : World}

theorem o_split (cs : List Value) (a n : Nat) : cs.drop a = (cs.drop a).take n ++ cs.drop (a + n) := by
  rw [← List.drop_drop, List.take_append_drop]

/-- A Root that came in. -/
theorem open_root {fuel : Nat} {cs : List Value} {x : DataW H × List MemPlace} (h : DataW.trod enc Try.prog W 0 (fun _ => true) true fuel 31 cs = some x) :
    ∃ (s : Nat) (l m : List Nat), cs = rootC s l m ∧ s < 18446744073709551616 ∧ (l.length = 32 ∧ ∀ y ∈ l, y < 256) ∧ (m.length = 32 ∧ ∀ y ∈ m, y < 256) := by
  obtain ⟨xs, n, _, rfl, hl, hlen, hf⟩ := DataW.trod_struct Try.underlying31 h
  rw [show Try.prog.cellsOf 31 = 65 from by kernel_rfl] at hl
  match xs, hlen with
  | [y0, y1, y2], _ =>
    have cu : Try.prog.cellsOf 27 = 1 := by kernel_rfl
    have cd : Try.prog.cellsOf 29 = 32 := by kernel_rfl
    have f0 : DataW.trod enc Try.prog W 0 (fun _ => true) true n 27 ((cs.drop 0).take 1) = some y0 := by rw [← cu]; exact hf 0 _ rfl
    have f1 : DataW.trod enc Try.prog W 0 (fun _ => true) true n 29 ((cs.drop 1).take 32) = some y1 := by rw [← cd]; exact hf 1 _ rfl
    have f2 : DataW.trod enc Try.prog W 0 (fun _ => true) true n 29 ((cs.drop 33).take 32) = some y2 := by rw [← cd]; exact hf 2 _ rfl
    obtain ⟨k, e0, _, w0⟩ := DataW.trod_int Try.underlying27 f0
    obtain ⟨l, e1, l1, l2⟩ := open_dig f1
    obtain ⟨m, e2, m1, m2⟩ := open_dig f2
    have hw : 0 ≤ k ∧ k < 18446744073709551616 := by
      simp [Lit.wf, IntKind.min, IntKind.max, IntKind.signed, IntKind.bits] at w0
      omega
    refine ⟨k.toNat, l, m, ?_, by omega, ⟨l1, l2⟩, ⟨m1, m2⟩⟩
    have hd : cs.drop 65 = [] := List.drop_eq_nil_of_le (by omega)
    have := o_split cs 0 1
    rw [e0, o_split cs 1 32, e1, o_split cs 33 32, e2, hd, List.drop_zero] at this
    rw [this, rootC, Int.toNat_of_nonneg hw.1]
    simp
end
end Go.Proofs.Ytkcanelboloihaa
