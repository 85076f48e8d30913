import Derived.Test.YtnimfbbhhdgepabDoorLShaSums
import Derived.Test.YtnimfbbhhdgepabDoorSCopy
import Derived.Test.YtnimfbbhhdgepabDoorQKeep
namespace Go.Proofs.YtnimfbbhhdgepabDoor
open Go.RowKit Go.BigFrame
set_option linter.unusedVariables false
set_option linter.unusedSimpArgs false

set_option maxRecDepth 100000 in
set_option maxHeartbeats 1000000 in
theorem nilWrite_any (v : Value) (w : World) : Calls Tryd.prog 10 #[.pointer none, v] w fun e w' => e = .returned (.tuple #[]) ∧ w' = w := by
  go_enter Tryd.func10, Tryd.ntmps10
  go_wp2
  exact bodyPost_ret (v := .tuple #[]) (results_none rfl _ _ _) rfl ⟨rfl, rfl⟩

set_option maxRecDepth 100000 in
set_option maxHeartbeats 1000000 in
theorem nilCopy_any (w : World) : Calls Tryd.prog 18 #[.pointer none] w fun e w' => e = .returned (.pointer none) ∧ w' = w := by
  go_enter Tryd.func18, Tryd.ntmps18
  go_wp2
  go_ret
  exact ⟨rfl, rfl⟩

set_option maxRecDepth 100000 in
set_option maxHeartbeats 1000000 in
theorem nilSum_any (w : World) : Calls Tryd.prog 14 #[.pointer none] w fun e w' => e = .returned (.agg (zb 32)) ∧ Kept [] w w' := by
  go_enter Tryd.func14, Tryd.ntmps14
  go_wp2_with (rw [zb32]; refine wpList_store_row rfl 27 (.tmp 2) _ rfl w.heap.size (zb 32) rfl rfl _ (zb 32) (heap_alloc_new _ _) (by rw [zb_size]; exact Tryd.size_a32b) rfl (brow_one _) ?_)
  refine bodyPost_ret (v := .agg (zb 32)) ?_ rfl ⟨rfl, ((Kept.refl [] w).alloc _).setRow (by simp) _⟩
  exact results_cell_row rfl _ _ w.heap.size _ (zb 32) (0, 0) _ rfl (setRow_heap _ _ _ _ _ _ (heap_alloc_new _ _)) Tryd.underlying27 rfl (by rw [zb_size]; exact Tryd.size_a32b)

set_option maxRecDepth 100000 in
set_option maxHeartbeats 2000000 in
theorem shaNil_walk (w : World) (hT : Tabs w) :
    Calls Tryd.prog 4 #[] w fun e w' => e = .returned (.bool true) ∧ Below w.heap.size w w' := by
  have HT := hide hT
  clear hT
  have hzs := zero_st
  have kc := fun (w : World) (C : Array Value) (n c : Nat) => Lib.run_convert_bytes_const (P := Tryd.prog) w 22 5 C n c Tryd.underlying22 Tryd.underlying5
  go_enter Tryd.func4, Tryd.ntmps4
  go_wp2_with fail
  refine (shaAwake_any w (unhide HT)).mono ?_
  rintro e w1 ⟨rfl, k1⟩
  have HK1 := hide k1
  clear k1
  have h2 := (unhide HT).two
  have hs1 := (unhide HK1).size
  have HT1 := hide ((unhide HT).k (unhide HK1))
  have HS1 := hide (st_zero (heap_alloc_new w1 (.cells zst 41)))
  have HKa := hide ((unhide HK1).alloc (.cells zst 41))
  obtain ⟨W1, hW1⟩ : ∃ W, w1.alloc (.cells zst 41) = W := ⟨_, rfl⟩
  obtain ⟨gz, hgz⟩ : ∃ g, w1.heap.size = g := ⟨_, rfl⟩
  have hsW : gz < W1.heap.size := by rw [← hW1, ← hgz]; simp
  have Hge := hide (by omega : w.heap.size ≤ gz)
  go_wp2_with fail
  rw [hW1] at HS1 HKa
  rw [hgz] at HS1
  clear hW1 hgz
  refine (ssum_any gz [] W1 (unhide HS1) (by simp) ((unhide HT).k (unhide HKa))).mono ?_
  rintro e w2 ⟨rfl, k2⟩
  have HS2 := hide ((unhide HS1).kept k2 (by simp))
  have HK2 := hide ((unhide HKa).trans k2 (by simp))
  clear k2
  go_wp2_with fail
  refine (refsum_any _ [] w2 (Rd.nil w2)).mono ?_
  rintro e w3 ⟨rfl, k3⟩
  have HS3 := hide ((unhide HS2).kept k3 (by simp))
  have HK3 := hide ((unhide HK2).trans k3 (by simp))
  clear k3
  have hl0 := hash_len []
  generalize hash [] = hs0 at hl0 ⊢
  have hq0 := fun w => row_eq w hs0 hs0 hl0 hl0
  simp only [decide_true] at hq0
  have hlt3 := (unhide HS3).lt
  go_wp2_with fail
  refine (write_any gz [] _ [97, 98] _ ((unhide HS3).kept ((Kept.refl [] w3).alloc _) (by simp)) (rd_mark (heap_alloc_new _ _) rfl (by decide) 2 rfl (by decide)) (by intro _; simp [blk]; omega) (by have := unhide Hge; omega) (by simp) ((unhide HT).kept ((unhide HK3).alloc _) (by simp) (by simp))).mono ?_
  rintro e w4 ⟨rfl, s4, k4⟩
  have HS4 := hide s4
  have HK4 := hide (((unhide HK3).alloc _).trans k4 (by have := unhide Hge; simp; omega))
  clear s4 k4
  go_wp2_with fail
  refine (scopy_any gz _ w4 (unhide HS4)).mono ?_
  rintro e w5 ⟨rfl, s5, k5⟩
  have HC5 := hide s5
  have HS5 := hide ((unhide HS4).kept k5 (by simp))
  have HK5 := hide ((unhide HK4).trans k5 (by simp))
  have hz4 := (unhide HS4).lt
  have hk4 := (unhide HK4).size
  clear s5 k5
  have hlt5 := (unhide HS5).lt
  have hltc := (unhide HC5).lt
  obtain ⟨gc, hgc⟩ : ∃ g, w4.heap.size = g := ⟨_, rfl⟩
  rw [hgc] at HC5 hltc hk4 hz4
  go_wp2_with fail
  refine (write_any gz _ _ [99] _ ((unhide HS5).kept ((Kept.refl [] w5).alloc _) (by simp)) (rd_mark (heap_alloc_new _ _) rfl (by decide) 1 rfl (by decide)) (by intro _; simp [blk]; omega) (by have := unhide Hge; omega) (by simp) ((unhide HT).kept ((unhide HK5).alloc _) (by simp) (by simp))).mono ?_
  rintro e w6 ⟨rfl, s6, k6⟩
  have HS6 := hide s6
  have HC6 := hide (((unhide HC5).kept ((Kept.refl [] w5).alloc _) (by simp)).kept k6 (by simp; omega))
  have HK6 := hide (((unhide HK5).alloc _).trans k6 (by have := unhide Hge; simp; omega))
  clear s6 k6
  go_wp2_with fail
  refine (ssum_any gz _ w6 (unhide HS6) (by simp) ((unhide HT).k (unhide HK6))).mono ?_
  rintro e w7 ⟨rfl, k7⟩
  have HC7 := hide ((unhide HC6).kept k7 (by simp))
  have HK7 := hide ((unhide HK6).trans k7 (by simp))
  clear k7
  rw [show hash ([] ++ [97, 98] ++ [99]) = abcL from abc_hash]
  go_wp2_with fail
  refine (abc_any w7).mono ?_
  rintro e w8 ⟨rfl, k8⟩
  have HC8 := hide ((unhide HC7).kept k8 (by simp))
  have HK8 := hide ((unhide HK7).trans k8 (by simp))
  clear k8
  have hqa := fun w => row_eq w abcL abcL rfl rfl
  simp only [decide_true] at hqa
  go_wp2_with fail
  refine (ssum_any gc [97, 98] w8 (unhide HC8) (by simp) ((unhide HT).k (unhide HK8))).mono ?_
  rintro e w9 ⟨rfl, k9⟩
  have HK9 := hide ((unhide HK8).trans k9 (by simp))
  clear k9
  go_wp2_with fail
  refine (refsum_any _ [97, 98] _ (rd_mark (heap_alloc_new _ _) rfl (by decide) 2 rfl (by decide))).mono ?_
  rintro e w10 ⟨rfl, k10⟩
  have HK10 := hide (((unhide HK9).alloc _).trans k10 (by simp))
  clear k10
  have hlb := hash_len [97, 98]
  generalize hash [97, 98] = hsb at hlb ⊢
  have hqb := fun w => row_eq w hsb hsb hlb hlb
  simp only [decide_true] at hqb
  go_wp2_with fail
  refine (nilWrite_any _ _).mono ?_
  rintro e w11 ⟨rfl, rfl⟩
  have HK11 := hide ((unhide HK10).alloc (.cells (([97, 98, 99] : List Nat).map u8).toArray 5))
  go_wp2_with fail
  refine (nilSum_any _).mono ?_
  rintro e w12 ⟨rfl, k12⟩
  have HK12 := hide (((unhide HK10).alloc _).trans k12 (by simp))
  clear k12
  have hqz : ∀ w, (Op.equalIn 10000 27 (.agg (zb 32)) (.agg #[.int .u8 0, .int .u8 0, .int .u8 0, .int .u8 0, .int .u8 0, .int .u8 0, .int .u8 0, .int .u8 0, .int .u8 0, .int .u8 0, .int .u8 0, .int .u8 0, .int .u8 0, .int .u8 0, .int .u8 0, .int .u8 0, .int .u8 0, .int .u8 0, .int .u8 0, .int .u8 0, .int .u8 0, .int .u8 0, .int .u8 0, .int .u8 0, .int .u8 0, .int .u8 0, .int .u8 0, .int .u8 0, .int .u8 0, .int .u8 0, .int .u8 0, .int .u8 0])).run Tryd.prog w = .ok true w := by
    intro w
    rw [zb32]
    have := row_eq w (List.replicate 32 0) (List.replicate 32 0) (by simp) (by simp)
    rw [decide_eq_true rfl] at this
    exact this
  go_wp2_with fail
  refine (nilCopy_any _).mono ?_
  rintro e w13 ⟨rfl, rfl⟩
  go_wp2
  go_ret
  exact ⟨rfl, (unhide HK12).below (Nat.le_refl _) (by simp)⟩
end Go.Proofs.YtnimfbbhhdgepabDoor
