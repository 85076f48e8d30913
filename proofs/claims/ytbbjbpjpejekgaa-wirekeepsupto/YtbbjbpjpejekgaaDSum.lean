import Derived.Test.YtbbjbpjpejekgaaJoin
namespace Go.Proofs.Ytbbjbpjpejekgaa
open Go.RowKit
def RdL (w : World) (v : Value) (ps : List (List Nat)) : Prop :=
  ∃ (ao : Option Addr) (len cap : Nat) (vs : List Value), v = .slice ao len cap ∧ vs.length = len ∧ ps.length = len ∧ len ≤ cap ∧ cap ≤ 9223372036854775807 ∧
    (0 < len → ∃ b off, ao = some ⟨b, off, none⟩ ∧ ∀ i, i < len → w.cell? ⟨b, off + i, none⟩ = some (vs.getD i undef)) ∧ ∀ i, i < len → Rd w (vs.getD i undef) (ps.getD i [])
theorem RdL.old {w0 w : World} {v : Value} {ps : List (List Nat)} (h : RdL w0 v ps) (k : Kept [] w0 w) : RdL w v ps := by
  obtain ⟨ao, len, cap, vs, rfl, h1, h2, h3, h4, h5, h6⟩ := h
  refine ⟨ao, len, cap, vs, rfl, h1, h2, h3, h4, fun hp => ?_, fun i hi => (h6 i hi).old k (by simp)⟩
  obtain ⟨b, off, rfl, hc⟩ := h5 hp
  exact ⟨b, off, rfl, fun i hi => k.cell (hc i hi) (by simp)⟩
theorem flat_snoc (ps : List (List Nat)) (i : Nat) (h : i < ps.length) : (ps.take (i + 1)).flatten = (ps.take i).flatten ++ ps.getD i [] := by
  rw [List.take_succ_eq_append_getElem h, List.flatten_append, List.getD_eq_getElem?_getD, List.getElem?_eq_getElem h]; simp
theorem flat_le (ps : List (List Nat)) (i : Nat) : (ps.take i).flatten.length ≤ ps.flatten.length := by
  conv => rhs; rw [← List.take_append_drop i ps, List.flatten_append, List.length_append]
  omega
end Go.Proofs.Ytbbjbpjpejekgaa
