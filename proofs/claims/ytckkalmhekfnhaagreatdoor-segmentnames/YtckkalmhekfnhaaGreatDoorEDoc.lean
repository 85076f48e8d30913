import Derived.Test.YtckkalmhekfnhaaGreatDoorEEnc
import Derived.Deep.RegionHeld3
namespace Go.Proofs.YtckkalmhekfnhaaGreatDoor
open Go.RowKit Go.BigFrame
set_option linter.unusedVariables false
set_option linter.unusedSimpArgs false

theorem rd_one {w : World} {g k : Nat} (h : w.heap[g]? = some (.cells #[.int .u8 (k : Int)] 5 (0, 0))) (hk : k < 256) : Rd w (.slice (some ⟨g, 0, none⟩) 1 1) [k] :=
  rd_lit h rfl (by intro x hx; simp at hx; omega) 1 rfl (by omega)

set_option maxRecDepth 100000 in
set_option maxHeartbeats 1000000 in
theorem refBytes_any (e : En) (kv vv : Value) (w : World) (h : OkE w e kv vv) (hl : e.key.length + e.val.length ≤ 1000000000) :
    Calls Tryz.prog 72 #[.agg (enC e kv vv)] w fun r w' => ∃ v', r = .returned v' ∧ Rd w' v' (enB e) ∧ Kept [] w w' := by
  have hk := h.k
  have HKV := hide h.key
  have HVV := hide h.val
  obtain ⟨a1, n1, c1, rfl, hn1, _⟩ := id h.key
  obtain ⟨a2, n2, c2, rfl, hn2, _⟩ := id h.val
  obtain ⟨k, key, val⟩ := e
  simp only at hn1 hn2 hk hl HKV HVV
  subst hn1
  subst hn2
  clear h
  unfold enC
  have HG := hide (heap_alloc_new w (.cells #[.int .u8 (k : Int), .slice a1 key.length c1, .slice a2 val.length c2] 71))
  have HK0 := hide ((Kept.refl [] w).alloc (.cells #[.int .u8 (k : Int), .slice a1 key.length c1, .slice a2 val.length c2] 71))
  go_enter Tryz.func72, Tryz.ntmps72
  go_wp2_with fail
  obtain ⟨W, hW⟩ : ∃ W, w.alloc (.cells #[.int .u8 (k : Int), .slice a1 key.length c1, .slice a2 val.length c2] 71) = W := ⟨_, rfl⟩
  rw [hW] at HG HK0 ⊢
  clear hW
  have x0 : W.cell? ⟨w.heap.size, 0, none⟩ = some (.int .u8 (k : Int)) := by rw [cell_of_row _ _ _ _ _ _ (unhide HG)]; rfl
  have x1 : W.cell? ⟨w.heap.size, 1, none⟩ = some (.slice a1 key.length c1) := by rw [cell_of_row _ _ _ _ _ _ (unhide HG)]; rfl
  have HX0 := hide x0
  have HX1 := hide x1
  have HX2 := hide (by rw [cell_of_row _ _ _ _ _ _ (unhide HG)]; rfl : W.cell? ⟨w.heap.size, 2, none⟩ = some (.slice a2 val.length c2))
  have HKW := hide ((unhide HKV).old (unhide HK0) (by simp))
  have HVW := hide ((unhide HVV).old (unhide HK0) (by simp))
  have HU1 := hide (uv_len key.length (by omega))
  have HU2 := hide (uv_len val.length (by omega))
  go_region_held3 (fun w' => w'.cell? ⟨w.heap.size, 0, none⟩ = some (.int .u8 (k : Int)) ∧ w'.cell? ⟨w.heap.size, 1, none⟩ = some (.slice a1 key.length c1)) (go_keep) (first
    | (go_at_call 110; refine (refBlob_any _ key _ (by first | exact (unhide HKW).old ((Kept.refl [] W).alloc (.cells #[.int .u8 (k : Int)] 5)).drew (by simp) | exact (unhide HKW).old (Kept.refl [] W).drew (by simp)) (by omega)).mono ?_; rintro e w3 ⟨v3, rfl, r3, k3, _⟩; have HR3 := hide r3; (try (have HL1 := hide ((rd_one (show (W.alloc (.cells #[.int .u8 (k : Int)] 5)).drew.heap[W.heap.size]? = _ from heap_alloc_new W _) hk).old k3 (by simp)))); first | (have K3 := ((Kept.refl [] W).alloc (.cells #[.int .u8 (k : Int)] 5)).drew.trans k3 (by simp); have HK3 := hide K3; have y0 := K3.cell (unhide HX0) (by simp); have y1 := K3.cell (unhide HX1) (by simp); clear K3 k3 r3) | (have K3 := (Kept.refl [] W).drew.trans k3 (by simp); have HK3 := hide K3; have y0 := K3.cell (unhide HX0) (by simp); have y1 := K3.cell (unhide HX1) (by simp); clear K3 k3 r3))
    | (go_at_call 27; refine (join_any _ _ [k] (uv key.length ++ key) _ (by exact unhide HL1) (by exact unhide HR3) (by have := unhide HU1; simp only [List.length_append, List.length_cons, List.length_nil]; omega)).mono ?_; rintro e w4 ⟨v4, rfl, r4, k4, _⟩; have HR4 := hide r4; have HK4 := hide ((unhide HK3).trans k4 (by simp)); have z0 := k4.cell y0 (by simp); have z1 := k4.cell y1 (by simp); clear r4 k4)
    | (go_at_call 27; refine (join_any _ _ [k] (uv key.length ++ key) _ (by exact rd_one (heap_alloc_new w3 _) hk) (by exact (unhide HR3).old ((Kept.refl [] w3).alloc _) (by simp)) (by have := unhide HU1; simp only [List.length_append, List.length_cons, List.length_nil]; omega)).mono ?_; rintro e w4 ⟨v4, rfl, r4, k4', _⟩; have k4 := ((Kept.refl [] w3).alloc _).trans k4' (by simp); have HR4 := hide r4; have HK4 := hide ((unhide HK3).trans k4 (by simp)); have z0 := k4.cell y0 (by simp); have z1 := k4.cell y1 (by simp); clear r4 k4 k4'))
  all_goals
    have q0 := (unhide HK4).cell (unhide HX0) (by simp)
    have q2 := (unhide HK4).cell (unhide HX2) (by simp)
    have HV4 := hide ((unhide HVW).old (unhide HK4) (by simp))
    by_cases hk1 : k = 1
    · have e1 : ((k : Int) == 1) = true := by rw [hk1]; rfl
      have HB := hide (by simp [enB, hk1] : enB ⟨k, key, val⟩ = [k] ++ (uv key.length ++ key) ++ (uv val.length ++ val))
      clear hk1
      go_wp2_with fail
      refine Calls.mono (refBlob_any _ val _ (unhide HV4) (by omega)) ?_
      rintro r w5 ⟨v5, rfl, r5, k5, _⟩
      have HR5 := hide r5
      have HJ5 := hide ((unhide HR4).old k5 (by simp))
      have HK5 := hide ((unhide HK4).trans k5 (by simp))
      clear r5 k5
      go_wp2_with fail
      refine Calls.mono (join_any _ _ _ _ _ (unhide HJ5) (unhide HR5) (by have := unhide HU1; have := unhide HU2; simp only [List.length_append, List.length_cons, List.length_nil]; omega)) ?_
      rintro r w6 ⟨v6, rfl, r6, k6, _⟩
      have HR6 := hide r6
      have HK6 := hide ((unhide HK0).trans ((unhide HK5).trans k6 (by simp)) (by simp))
      clear r6 k6
      go_wp2
      go_ret
      exact ⟨_, rfl, by rw [unhide HB]; exact unhide HR6, unhide HK6⟩
    · have e1 : ((k : Int) == 1) = false := by rw [beq_eq_false_iff_ne]; omega
      have HB := hide (by simp [enB, hk1] : enB ⟨k, key, val⟩ = [k] ++ (uv key.length ++ key))
      clear hk1
      go_wp2
      go_ret
      exact ⟨_, rfl, by rw [unhide HB]; exact unhide HR4, (unhide HK0).trans (unhide HK4) (by simp)⟩

end Go.Proofs.YtckkalmhekfnhaaGreatDoor
