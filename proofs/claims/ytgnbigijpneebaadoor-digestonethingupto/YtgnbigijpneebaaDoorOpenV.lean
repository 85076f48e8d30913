import Derived.Test.YtgnbigijpneebaaDoorBunI
namespace Go.Proofs.YtgnbigijpneebaaDoor
open Go Go.RowKit
set_option linter.unusedVariables false
set_option linter.unusedSimpArgs false
section
variable {H : Type} {enc : TypeId × Value → H} {W : World}

set_option maxRecDepth 100000 in
theorem open_opv {b0 : Nat} {v : Value} {d : DataW H} {ps : List MemPlace} (hv : Value.okWide Tryd.prog W .any b0 34 v) (h : DataW.Trod enc Tryd.prog W 0 (fun _ => true) true 34 v d ps) (hB : Rows.uptoBulk d ≤ 1048576) :
    ∃ (o : OpD) (pv kv dv : Value), v = .agg (opC o pv kv dv).toArray ∧ OkD W o pv kv dv := by
  unfold Value.okWide at hv
  rw [Tryd.underlying34] at hv
  obtain ⟨cs, rfl, _, _⟩ := hv
  obtain ⟨fuel, hf⟩ := h
  obtain ⟨o, pv, kv, dv, e, h1⟩ := open_op hf hB
  refine ⟨o, pv, kv, dv, ?_, h1⟩
  simp only [Value.cells] at e
  rw [← e]
end
end Go.Proofs.YtgnbigijpneebaaDoor
