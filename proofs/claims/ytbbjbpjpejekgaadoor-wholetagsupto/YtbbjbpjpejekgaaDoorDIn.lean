import Derived.Test.YtbbjbpjpejekgaaDoorLSums3
namespace Go.Proofs.YtbbjbpjpejekgaaDoor
open Go.RowKit Go.BigFrame
set_option linter.unusedVariables false
set_option linter.unusedSimpArgs false

set_option maxRecDepth 100000 in
set_option maxHeartbeats 1000000 in
theorem leafInput_any (v : Value) (p : List Nat) (w : World) (h : Rd w v p) (hl : p.length ≤ 140737488351232) :
    Calls Tryd.prog 35 #[v] w fun e w' => ∃ v', e = .returned v' ∧ NewB w w' v' (0 :: p) ∧ Kept [] w w' := by
  have H := hide h
  obtain ⟨a0, m0, c0, hu0, hm0, _⟩ := id h
  subst hu0
  subst hm0
  clear h
  go_enter Tryd.func35, Tryd.ntmps35
  go_wp2_with fail
  refine Calls.mono (tagged_any 0 _ [p] _ (by decide) (RdL.one (heap_alloc_new _ _) ((unhide H).old ((Kept.refl [] w).alloc _) (by simp))) (by simpa using hl)) ?_
  rintro e w1 ⟨g, rfl, hg, h1, k1⟩
  have HG := hide (Nat.le_trans ((Kept.refl [] w).alloc _).size hg)
  have H1 := hide h1
  have HK := hide (((Kept.refl [] w).alloc _).trans k1 (by simp))
  clear hg h1 k1
  go_wp2
  go_ret
  refine ⟨_, rfl, ?_, unhide HK⟩
  have h9 := NewB.mk (w := w) (bs := 0 :: [p].flatten) (unhide HG) (unhide H1) (by simpa using (unhide H).byte) (by simp; omega)
  simpa using h9

set_option maxRecDepth 100000 in
set_option maxHeartbeats 1000000 in
theorem keyInput_any (v : Value) (p : List Nat) (w : World) (h : Rd w v p) (hl : p.length ≤ 140737488351232) :
    Calls Tryd.prog 37 #[v] w fun e w' => ∃ v', e = .returned v' ∧ NewB w w' v' (2 :: p) ∧ Kept [] w w' := by
  have H := hide h
  obtain ⟨a0, m0, c0, hu0, hm0, _⟩ := id h
  subst hu0
  subst hm0
  clear h
  go_enter Tryd.func37, Tryd.ntmps37
  go_wp2_with fail
  refine Calls.mono (tagged_any 2 _ [p] _ (by decide) (RdL.one (heap_alloc_new _ _) ((unhide H).old ((Kept.refl [] w).alloc _) (by simp))) (by simpa using hl)) ?_
  rintro e w1 ⟨g, rfl, hg, h1, k1⟩
  have HG := hide (Nat.le_trans ((Kept.refl [] w).alloc _).size hg)
  have H1 := hide h1
  have HK := hide (((Kept.refl [] w).alloc _).trans k1 (by simp))
  clear hg h1 k1
  go_wp2
  go_ret
  refine ⟨_, rfl, ?_, unhide HK⟩
  have h9 := NewB.mk (w := w) (bs := 2 :: [p].flatten) (unhide HG) (unhide H1) (by simpa using (unhide H).byte) (by simp; omega)
  simpa using h9

set_option maxRecDepth 100000 in
set_option maxHeartbeats 1000000 in
theorem refLeafInput_any (v : Value) (p : List Nat) (w : World) (h : Rd w v p) (hl : p.length ≤ 140737488351232) :
    Calls Tryd.prog 25 #[v] w fun e w' => ∃ v', e = .returned v' ∧ Rd w' v' (0 :: p) ∧ Kept [] w w' := by
  have H := hide h
  obtain ⟨a0, m0, c0, hu0, hm0, _⟩ := id h
  subst hu0
  subst hm0
  clear h
  go_enter Tryd.func25, Tryd.ntmps25
  go_wp2_with fail
  refine Calls.mono (join_any _ _ [0] p _ (rd_lit1 [0] (heap_alloc_new _ _) rfl (by decide) 1 rfl (by decide)) ((unhide H).old ((Kept.refl [] w).alloc _) (by simp)) (by simp; omega)) ?_
  rintro e w1 ⟨v1, rfl, r1, k1, _⟩
  have HR := hide r1
  have HK := hide (((Kept.refl [] w).alloc _).trans k1 (by simp))
  clear r1 k1
  go_wp2
  go_ret
  exact ⟨_, rfl, unhide HR, unhide HK⟩

set_option maxRecDepth 100000 in
set_option maxHeartbeats 1000000 in
theorem refKeyInput_any (v : Value) (p : List Nat) (w : World) (h : Rd w v p) (hl : p.length ≤ 140737488351232) :
    Calls Tryd.prog 26 #[v] w fun e w' => ∃ v', e = .returned v' ∧ Rd w' v' (2 :: p) ∧ Kept [] w w' := by
  have H := hide h
  obtain ⟨a0, m0, c0, hu0, hm0, _⟩ := id h
  subst hu0
  subst hm0
  clear h
  go_enter Tryd.func26, Tryd.ntmps26
  go_wp2_with fail
  refine Calls.mono (join_any _ _ [2] p _ (rd_lit1 [2] (heap_alloc_new _ _) rfl (by decide) 1 rfl (by decide)) ((unhide H).old ((Kept.refl [] w).alloc _) (by simp)) (by simp; omega)) ?_
  rintro e w1 ⟨v1, rfl, r1, k1, _⟩
  have HR := hide r1
  have HK := hide (((Kept.refl [] w).alloc _).trans k1 (by simp))
  clear r1 k1
  go_wp2
  go_ret
  exact ⟨_, rfl, unhide HR, unhide HK⟩

/-- The slice value v reads as these pairs of a key and a value. -/
def RdK (w : World) (v : Value) (ps : List (List Nat × List Nat)) : Prop :=
  ∃ (ao : Option Addr) (len cap : Nat) (vs us : List Value), v = .slice ao len cap ∧ ps.length = len ∧ len ≤ cap ∧ cap ≤ 9223372036854775807 ∧ (∀ i, i < len → Rd w (vs.getD i undef) (ps.getD i ([], [])).1 ∧ Rd w (us.getD i undef) (ps.getD i ([], [])).2) ∧
    (0 < len → ∃ b off, ao = some ⟨b, off, none⟩ ∧ ∀ i, i < len → w.cell? ⟨b, off + i * 2, none⟩ = some (vs.getD i undef) ∧ w.cell? ⟨b, off + i * 2 + 1, none⟩ = some (us.getD i undef))
theorem RdK.old {w w' : World} {v : Value} {ps : List (List Nat × List Nat)} (h : RdK w v ps) (k : Kept [] w w') : RdK w' v ps := by
  obtain ⟨ao, len, cap, vs, us, h1, h2, h4, h5, h6, h7⟩ := h
  refine ⟨ao, len, cap, vs, us, h1, h2, h4, h5, fun i hi => ⟨(h6 i hi).1.old k (by simp), (h6 i hi).2.old k (by simp)⟩, fun hp => ?_⟩
  obtain ⟨b, off, e, hc⟩ := h7 hp
  exact ⟨b, off, e, fun i hi => ⟨k.cell (hc i hi).1 (by simp), k.cell (hc i hi).2 (by simp)⟩⟩
/-- The pairs laid, each with its lengths. -/
def pairB (ps : List (List Nat × List Nat)) : List Nat := (ps.map fun x => uv x.1.length ++ x.1 ++ (uv x.2.length ++ x.2)).flatten
def buckB (ps : List (List Nat × List Nat)) : List Nat := 3 :: (uv ps.length ++ pairB ps)
def kwt (ps : List (List Nat × List Nat)) : Nat := (ps.map fun x => x.1.length + x.2.length + 2).sum
theorem pairB_snoc (ps : List (List Nat × List Nat)) (i : Nat) (h : i < ps.length) : pairB (ps.take (i + 1)) = pairB (ps.take i) ++ (uv ps[i].1.length ++ ps[i].1 ++ (uv ps[i].2.length ++ ps[i].2)) := by
  unfold pairB
  rw [List.take_succ_eq_append_getElem h, List.map_append, List.flatten_append]
  simp
theorem pairB_le (ps : List (List Nat × List Nat)) (i : Nat) : (pairB (ps.take i)).length ≤ (pairB ps).length := by
  have e : pairB ps = pairB (ps.take i) ++ pairB (ps.drop i) := by
    unfold pairB
    rw [← List.flatten_append, ← List.map_append, List.take_append_drop]
  rw [e, List.length_append]; omega

end Go.Proofs.YtbbjbpjpejekgaaDoor
