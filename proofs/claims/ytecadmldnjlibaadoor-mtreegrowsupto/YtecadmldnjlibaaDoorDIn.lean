import Derived.Test.YtecadmldnjlibaaDoorLSums3
namespace Go.Proofs.YtecadmldnjlibaaDoor
open Go.RowKit Go.BigFrame
set_option linter.unusedVariables false
set_option linter.unusedSimpArgs false

/-- The slice value v reads as these pairs of a key and a value. -/
def RdK (w : World) (v : Value) (ps : List (List Nat × List Nat)) : Prop :=
  ∃ (ao : Option Addr) (len cap : Nat) (vs us : List Value), v = .slice ao len cap ∧ ps.length = len ∧ len ≤ cap ∧ cap ≤ 9223372036854775807 ∧ (∀ i, i < len → Rd w (vs.getD i undef) (ps.getD i ([], [])).1 ∧ Rd w (us.getD i undef) (ps.getD i ([], [])).2) ∧
    (0 < len → ∃ b off, ao = some ⟨b, off, none⟩ ∧ ∀ i, i < len → w.cell? ⟨b, off + i * 2, none⟩ = some (vs.getD i undef) ∧ w.cell? ⟨b, off + i * 2 + 1, none⟩ = some (us.getD i undef))
theorem RdK.old {w w' : World} {v : Value} {ps : List (List Nat × List Nat)} (h : RdK w v ps) (k : Kept [] w w') : RdK w' v ps := by
  obtain ⟨ao, len, cap, vs, us, h1, h2, h4, h5, h6, h7⟩ := h
  refine ⟨ao, len, cap, vs, us, h1, h2, h4, h5, fun i hi => ⟨(h6 i hi).1.old k (by simp), (h6 i hi).2.old k (by simp)⟩, fun hp => ?_⟩
  obtain ⟨b, off, e, hc⟩ := h7 hp
  exact ⟨b, off, e, fun i hi => ⟨k.cell (hc i hi).1 (by simp), k.cell (hc i hi).2 (by simp)⟩⟩
/-- The pairs laid, each with its lengths. -/
def pairB (ps : List (List Nat × List Nat)) : List Nat := (ps.map fun x => uv x.1.length ++ x.1 ++ (uv x.2.length ++ x.2)).flatten
def buckB (ps : List (List Nat × List Nat)) : List Nat := 3 :: (uv ps.length ++ pairB ps)
def kwt (ps : List (List Nat × List Nat)) : Nat := (ps.map fun x => x.1.length + x.2.length + 2).sum
theorem pairB_snoc (ps : List (List Nat × List Nat)) (i : Nat) (h : i < ps.length) : pairB (ps.take (i + 1)) = pairB (ps.take i) ++ (uv ps[i].1.length ++ ps[i].1 ++ (uv ps[i].2.length ++ ps[i].2)) := by
  unfold pairB
  rw [List.take_succ_eq_append_getElem h, List.map_append, List.flatten_append]
  simp
theorem pairB_le (ps : List (List Nat × List Nat)) (i : Nat) : (pairB (ps.take i)).length ≤ (pairB ps).length := by
  have e : pairB ps = pairB (ps.take i) ++ pairB (ps.drop i) := by
    unfold pairB
    rw [← List.flatten_append, ← List.map_append, List.take_append_drop]
  rw [e, List.length_append]; omega

end Go.Proofs.YtecadmldnjlibaaDoor
