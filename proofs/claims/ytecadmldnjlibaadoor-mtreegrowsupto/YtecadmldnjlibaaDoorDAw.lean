import Derived.Test.YtecadmldnjlibaaDoorDRoot
namespace Go.Proofs.YtecadmldnjlibaaDoor
open Go.RowKit Go.BigFrame
set_option linter.unusedVariables false
set_option linter.unusedSimpArgs false

/-- A literal of an array, as a row that is known. -/
theorem wpList_build_as {P : Program} {ops : Array Oper} {rest : List Oper} {o : Oper} {a : Act} {w : World} {Q : Exit → Act → World → Prop} (hg : o.guard = none) (t : TypeId) (parts : Array (Nat × Operand)) (ho : o.op = .build t parts) (cs : Array Value)
    (hb : P.built t (parts.map fun (i, x) => (i, a.eval x)).toList = some cs) (h : wpList P ops Q rest (a.put o.dst (.agg cs)) w) : wpList P ops Q (o :: rest) a w :=
  wpList_build hg t parts ho (by rw [hb]; rfl) (by rw [hb]; exact h)
theorem RdL.row {w : World} {g n : Nat} {vs : List Value} {ps : List (List Nat)} {t : TypeId} {fr : Nat × Nat} (h : w.heap[g]? = some (.cells vs.toArray t fr)) (hv : vs.length = n) (hp : ps.length = n) (hn : n ≤ 140737488355328)
    (hr : ∀ i, i < n → Rd w (vs.getD i undef) (ps.getD i [])) : RdL w (.slice (some ⟨g, 0, none⟩) n n) ps := by
  refine ⟨_, n, n, vs, rfl, hv, hp, Nat.le_refl _, by omega, fun _ => ⟨g, 0, rfl, fun i hi => ?_⟩, hr⟩
  rw [cell_of_row _ _ _ _ _ _ h, Nat.zero_add, List.getElem?_toArray, List.getD_eq_getElem?_getD, List.getElem?_eq_getElem (by omega)]; rfl
theorem rd_lit1 {w : World} {g : Nat} (bs : List Nat) {cs : Array Value} (h : w.heap[g]? = some (.cells cs 5 (0, 0))) (hc : cs = (bs.map u8).toArray) (hb : ∀ x ∈ bs, x < 256) (n : Nat) (hn : bs.length = n) (hl : n ≤ 140737488355328) : Rd w (.slice (some ⟨g, 0, none⟩) n n) bs := rd_lit h hc hb n hn hl
def dAbc : List Nat := 186 :: 120 :: List.replicate 30 0
def dA : List Nat := 170 :: List.replicate 31 0
def dB : List Nat := 187 :: List.replicate 31 0
theorem lit_abc : (#[.int .u8 186, .int .u8 120, .int .u8 0, .int .u8 0, .int .u8 0, .int .u8 0, .int .u8 0, .int .u8 0, .int .u8 0, .int .u8 0, .int .u8 0, .int .u8 0, .int .u8 0, .int .u8 0, .int .u8 0, .int .u8 0, .int .u8 0, .int .u8 0, .int .u8 0, .int .u8 0, .int .u8 0, .int .u8 0, .int .u8 0, .int .u8 0, .int .u8 0, .int .u8 0, .int .u8 0, .int .u8 0, .int .u8 0, .int .u8 0, .int .u8 0, .int .u8 0] : Array Value) = brow dAbc := rfl
theorem abc_dig : cutL 2 (hash [97, 98, 99]) = dAbc := by
  unfold hash hashW
  have e : [97, 98, 99] ++ pad [97, 98, 99].length = [97, 98, 99, 128] ++ List.replicate 59 0 ++ [24] := by decide
  rw [e, chain_step (by decide), chain_short (by decide), ← evC_eq]
  decide +kernel

end Go.Proofs.YtecadmldnjlibaaDoor
