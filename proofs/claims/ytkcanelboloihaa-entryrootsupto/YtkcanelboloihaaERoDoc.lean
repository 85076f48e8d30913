import Derived.Test.YtkcanelboloihaaERoRef
import Derived.Test.YtkcanelboloihaaRWide
import Derived.Deep.RegionHeld3
namespace Go.Proofs.Ytkcanelboloihaa
open Go.RowKit Go.BigFrame
set_option linter.unusedVariables false
set_option linter.unusedSimpArgs false

set_option maxRecDepth 100000 in
set_option maxHeartbeats 2000000 in
theorem docEncodeRoot_any (z : Int) (s : Nat) (l m : List Nat) (w : World) (hz : -9223372036854775808 ≤ z ∧ z ≤ 9223372036854775807) (hs : s < 18446744073709551616) (hl : l.length = 32) (hm : m.length = 32) (hlb : ∀ x ∈ l, x < 256) (hmb : ∀ x ∈ m, x < 256) :
    Calls Try.prog 13 #[.int .i64 z, .agg (rootC s l m).toArray] w fun e w' => ∃ v, e = .returned (.tuple #[v, .int .i64 (rootE z l m)]) ∧ Rd w' v (if rootE z l m = 0 then rootW z.toNat s l m else []) ∧ Kept [] w w' := by
  have HB := hide hlb
  have HB2 := hide hmb
  clear hlb hmb
  obtain ⟨f, hfe⟩ : ∃ f, rootE z l m = f := ⟨_, rfl⟩
  rw [hfe]
  have HFE := hide hfe
  obtain ⟨B, hB⟩ : ∃ B, (if f = 0 then rootW z.toNat s l m else []) = B := ⟨_, rfl⟩
  rw [hB]
  have HBB := hide hB
  clear hfe hB
  have HA := hide (heap_alloc_new w (.cells (rootC s l m).toArray 31))
  have HKA := hide ((Kept.refl [] w).alloc (.cells (rootC s l m).toArray 31))
  have HSL := hide (by rw [List.length_map, hl]; exact Try.size_dig : (Try.prog.info? 29).map (·.size) = some (l.map u8).length)
  have HSM := hide (by rw [List.length_map, hm]; exact Try.size_dig : (Try.prog.info? 29).map (·.size) = some (m.map u8).length)
  go_enter Try.func13, Try.ntmps13
  go_wp2_with fail
  obtain ⟨W, hW⟩ : ∃ W, w.alloc (.cells (rootC s l m).toArray 31) = W := ⟨_, rfl⟩
  rw [hW] at HA HKA ⊢
  clear hW
  refine Calls.mono (refWide5_any z _ hz) ?_
  rintro e w1 ⟨rfl, rfl⟩
  by_cases hw : widthB z = false
  · rw [hw]
    have HE := hide (by have h9 := unhide HFE; unfold rootE at h9; rw [if_pos hw] at h9; exact h9.symm : f = 1)
    clear hw
    go_wp2
    go_ret2
    exact ⟨_, by rw [unhide HE]; rfl, by rw [← unhide HBB, unhide HE, if_neg (by decide)]; exact Rd.nil _, unhide HKA⟩
  have HF1 := hide (by have h9 := unhide HFE; unfold rootE at h9; rw [if_neg hw] at h9; exact h9)
  replace hw : widthB z = true := by simpa using hw
  rw [hw]
  have hwd : 1 ≤ z ∧ z ≤ 32 := by simpa [widthB] using hw
  clear hw HFE
  obtain ⟨k, rfl⟩ : ∃ k : Nat, z = k := ⟨z.toNat, by omega⟩
  have hkk : 1 ≤ k ∧ k ≤ 32 := by omega
  have HR := hide (range_left w1 w.heap.size (l.map u8) (m.map u8) 31 (0, 0) _ (unhide HA))
  rw [List.length_map, hl] at HR
  go_wp2_with (first
    | (refine wpList_load_mid rfl 29 _ rfl w.heap.size 1 rfl (l.map u8) _ (unhide HR).1 Try.underlying29 rfl (unhide HSL) ?_))
  refine Calls.mono (formed5_any k l w1 hkk hl (unhide HB)) ?_
  rintro e w2 ⟨rfl, k2⟩
  have HK2 := hide ((unhide HKA).trans k2 (by simp))
  have HA2 := hide (k2.heap (unhide HA) (by simp))
  have HR2 := hide (range_left w2 w.heap.size (l.map u8) (m.map u8) 31 (0, 0) _ (unhide HA2))
  rw [List.length_map, hl] at HR2
  clear k2 HR HA HKA
  by_cases hf1 : formB k l = false
  · rw [hf1]
    have HE := hide (by have h9 := unhide HF1; rw [if_pos hf1] at h9; exact h9.symm : f = 3)
    clear hf1
    go_wp2
    go_ret2
    exact ⟨_, by rw [unhide HE]; rfl, by rw [← unhide HBB, unhide HE, if_neg (by decide)]; exact Rd.nil _, unhide HK2⟩
  have HF2 := hide (by have h9 := unhide HF1; rw [if_neg hf1] at h9; exact h9)
  replace hf1 : formB k l = true := by simpa using hf1
  rw [hf1]
  clear hf1 HF1
  go_wp2_with (first
    | (refine wpList_load_midG rfl 29 _ rfl w.heap.size 33 rfl (m.map u8) _ (unhide HR2).2 Try.underlying29 rfl (unhide HSM) ?_))
  refine Calls.mono (formed5_any k m w2 hkk hm (unhide HB2)) ?_
  rintro e w3 ⟨rfl, k3⟩
  have HK3 := hide ((unhide HK2).trans k3 (by simp))
  have HA3 := hide (k3.heap (unhide HA2) (by simp))
  have HR3 := hide (range_left w3 w.heap.size (l.map u8) (m.map u8) 31 (0, 0) _ (unhide HA3))
  rw [List.length_map, hl] at HR3
  clear k3 HR2 HA2 HK2
  by_cases hf2 : formB k m = false
  · rw [hf2]
    have HE := hide (by have h9 := unhide HF2; rw [if_pos hf2] at h9; exact h9.symm : f = 3)
    clear hf2
    go_wp2
    go_ret2
    exact ⟨_, by rw [unhide HE]; rfl, by rw [← unhide HBB, unhide HE, if_neg (by decide)]; exact Rd.nil _, unhide HK3⟩
  have HE := hide (by have h9 := unhide HF2; rw [if_neg hf2] at h9; exact h9.symm : f = 0)
  replace hf2 : formB k m = true := by simpa using hf2
  rw [hf2]
  clear hf2 HF2
  have hk : (k : Int) ≤ 32 := hwd.2
  have hk0 : (0 : Int) ≤ k := by omega
  have x0 : w3.cell? ⟨w.heap.size, 0, none⟩ = some (.int .u64 (s : Int)) := by rw [cell_of_row _ _ _ _ _ _ (unhide HA3)]; rfl
  have HX0 := hide x0
  have HRL := hide (fun (W : World) (q : Kept [] w3 W) => rd_dig (k := k) (range_kept (unhide HR3).1 q (by simp)) hl (unhide HB) (by omega))
  have HRM := hide (fun (W : World) (q : Kept [] w3 W) => rd_dig (k := k) (range_kept (unhide HR3).2 q (by simp)) hm (unhide HB2) (by omega))
  go_wp2_with fail
  have HWB := hide (rd_dig (w := w3) (k := k) (unhide HR3).1 hl (unhide HB) (by omega))
  go_region_held3 (fun w' => w'.cell? ⟨w.heap.size, 0, none⟩ = some (.int .u64 (s : Int))) (go_keep) (first
    | (go_at_call 50; refine (refWide_any s 8 w3.drew hs (by omega)).mono ?_; rintro e w4 ⟨rfl, k4, h4⟩; have K4 := (Kept.refl [] w3).drew.trans k4 (by simp); have HK4 := hide K4; have HR4 := hide (rd_lit h4 rfl (wide_byte s 8) 8 (wide_len s 8) (by omega)); have y0 := K4.cell (unhide HX0) (by simp); clear K4 k4 h4)
    | (go_at_call 49; refine (join_any _ _ (l.take k) (m.take k) _ (by exact unhide HRL _ (unhide HK4)) (by exact unhide HRM _ (unhide HK4)) (by simp [hl, hm]; omega)).mono ?_; rintro e w5 ⟨v5, rfl, r5, k5, _⟩; have HR5 := hide r5; have HJ5 := hide ((unhide HR4).old k5 (by simp)); have HK5 := hide ((unhide HK4).trans k5 (by simp)); have z0 := k5.cell y0 (by simp); clear k5 r5)
    | (go_at_call 49; refine (join_any _ _ (wide s 8) (l.take k ++ m.take k) _ (by exact unhide HJ5) (by exact unhide HR5) (by simp [hl, hm, wide_len]; omega)).mono ?_; rintro e w6 ⟨v6, rfl, r6, k6, _⟩; have HR6 := hide r6; have HK6 := hide ((unhide HK5).trans k6 (by simp)); have j0 := k6.cell z0 (by simp); clear k6 r6))
  all_goals
    go_wp2
    go_ret2
    refine ⟨_, by rw [unhide HE]; rfl, ?_, (unhide HK3).trans (unhide HK6) (by simp)⟩
    have e9 : wide s 8 ++ (l.take k ++ m.take k) = B := by
      rw [← unhide HBB, unhide HE, if_pos rfl]; simp [rootW]
    rw [← e9]
    exact unhide HR6
end Go.Proofs.Ytkcanelboloihaa
