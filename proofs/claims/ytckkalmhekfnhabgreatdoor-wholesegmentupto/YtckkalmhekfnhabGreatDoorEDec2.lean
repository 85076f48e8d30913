import Derived.Test.YtckkalmhekfnhabGreatDoorEDec
namespace Go.Proofs.YtckkalmhekfnhabGreatDoor
open Go.RowKit Go.BigFrame
set_option linter.unusedVariables false
set_option linter.unusedSimpArgs false

theorem results_cell_cell {P : Program} {fn : Func} {p q : Tmp} {ty ty2 : TypeId} (h : fn.results = #[.cell p ty, .cell q ty2]) (tmps : Array Value) (w : World) (g g2 : Nat) (t t2 : TypeId) (cs : Array Value) (fr fr2 : Nat × Nat) (d : TypeDesc) (k : IntKind) (x : Value)
    (hp : tmps.getD p undef = .pointer (some ⟨g, 0, none⟩)) (hg : w.heap[g]? = some (.cells cs t fr)) (hq : tmps.getD q undef = .pointer (some ⟨g2, 0, none⟩)) (hg2 : w.heap[g2]? = some (.cells #[x] t2 fr2))
    (hu : P.underlying ty = some d) (hd : (match d with | .struct _ | .array _ _ => true | _ => false) = true) (hi : (P.info? ty).map (·.size) = some cs.size) (hu2 : P.underlying ty2 = some (.int k)) :
    (results fn tmps).run P w = .ok (.tuple #[.agg cs, x]) w := by
  have hp' : tmps[p]?.getD undef = .pointer (some ⟨g, 0, none⟩) := by simpa using hp
  have hq' : tmps[q]?.getD undef = .pointer (some ⟨g2, 0, none⟩) := by simpa using hq
  have hc : w.cell? ⟨g2, 0, none⟩ = some x := by rw [cell_of_row _ _ _ _ _ _ hg2]; rfl
  have h2 : (isAgg ty2).run P w = .ok false w := by
    unfold isAgg
    rw [Sem.run_bind, run_underlying hu2 w]; simp
  have h3 : (loadVar ty2 ⟨g2, 0, none⟩).run P w = .ok x w := by
    unfold loadVar
    simp only [Sem.run_bind, h2, Result.andThen_ok]
    simp [go_sem, hc]
  simp [results, h, hp', hq', asAddr, run_loadVar_row w g t ty cs fr d hg hu hd hi, h3]

theorem enC_size (e : En) (kv vv : Value) : (enC e kv vv).size = 3 := rfl
theorem enC_one (e : En) {kv vv : Value} (h1 : kv.oneCell' = true) (h2 : vv.oneCell' = true) : (enC e kv vv).all (·.oneCell') = true := row3_one rfl h1 h2

def decE (p : List Nat) : En × Nat :=
  if (takeE p 0).2.2 ≠ 0 then (⟨0, [], []⟩, (takeE p 0).2.2) else if doneE p (takeE p 0).2.1 0 ≠ 0 then (⟨0, [], []⟩, doneE p (takeE p 0).2.1 0) else ((takeE p 0).1, 0)

end Go.Proofs.YtckkalmhekfnhabGreatDoor
