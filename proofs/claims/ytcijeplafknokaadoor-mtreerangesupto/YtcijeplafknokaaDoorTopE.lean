import Derived.Test.YtcijeplafknokaaDoorTopD
import Derived.Test.YtcijeplafknokaaDoorBase
import Derived.Test.YtcijeplafknokaaDoorCards
import Derived.Test.YtcijeplafknokaaDoorTie
import Derived.ProofKit
import Derived.OpenShut
import Derived.Deep.Slices
import Derived.SizedLaws
import Derived.Test.YtcijeplafknokaaDoorTopC
import Derived.Test.YtcijeplafknokaaDoorRowz
import Derived.Deep.RegionHeld3
import Derived.Test.YtcijeplafknokaaDoorDForm
namespace Go.Proofs.YtcijeplafknokaaDoor
open Go.RowKit Go.BigFrame
set_option linter.unusedVariables false
set_option linter.unusedSimpArgs false

def d7 : List Nat := 7 :: List.replicate 31 0
def d9 : List Nat := 9 :: List.replicate 31 0
theorem d7_dg : Dg d7 := ⟨rfl, by decide⟩
theorem d9_dg : Dg d9 := ⟨rfl, by decide⟩
theorem d79_form : [d7, d9].all (formB 1) = true := by decide +kernel
theorem rg79 : rgD 1 [d7, d9] 0 2 = nodS 1 d7 d9 := by
  unfold rgD
  rw [if_neg (by decide)]
  rw [rngD_cut (by decide) (by decide)]
  rfl

set_option maxRecDepth 100000 in
set_option maxHeartbeats 1000000 in
theorem mtawake_any (w : World) (hT : Tabs w) (h6 : Tab6 w) :
    Calls Tryd.prog 9 #[] w fun e w' => e = .returned (.bool true) ∧ Kept [] w w' := by
  have HTB := hide hT
  have H6 := hide h6
  clear hT h6
  go_enter Tryd.func9, Tryd.ntmps9
  go_wp2_with fail
  refine (newT_any 1 w (by decide)).mono ?_
  rintro e w1 ⟨t, rfl, ht, htr, k1⟩
  have HT1 := hide htr
  have HK1 := hide k1
  clear htr k1 ht
  go_wp2_with fail
  have HG := hide (heap_alloc_new w1 (.cells (d7.map Go.Proofs.YtcijeplafknokaaDoor.u8 ++ d9.map Go.Proofs.YtcijeplafknokaaDoor.u8).toArray 43))
  have kA := (Kept.refl [] w1).alloc (.cells (d7.map Go.Proofs.YtcijeplafknokaaDoor.u8 ++ d9.map Go.Proofs.YtcijeplafknokaaDoor.u8).toArray 43)
  have kB := (unhide HK1).trans kA (by simp)
  refine Calls.mono (appendT_any 1 t (.slice none 0 0) (.slice (some ⟨w1.heap.size, 0, none⟩) 2 2) [] [d7, d9] (w1.alloc (.cells (d7.map Go.Proofs.YtcijeplafknokaaDoor.u8 ++ d9.map Go.Proofs.YtcijeplafknokaaDoor.u8).toArray 43)) ((unhide HT1).old kA) (fun _ => rfl) (RdD.two (unhide HG) d7_dg.1 d9_dg.1 d7_dg.2 d9_dg.2) (by decide) ((unhide HTB).kept kB (by simp) (by simp)) ((unhide H6).kept kB)) ?_
  rintro e w2 ⟨ha, _, k2⟩
  obtain ⟨t2, v2, qs, rfl, ht2, htr2, hlv, _⟩ := ha d79_form
  have hlv2 : leavesK qs = [d7, d9] := hlv
  have HT2 := hide htr2
  have HT1b := hide (((unhide HT1).old kA).old k2)
  have HK2 := hide (kB.trans k2 (by simp))
  have HLV := hide hlv2
  clear htr2 k2 ha hlv hlv2 HG kA kB HK1 HT1 ht2
  have HL1 := hide (by rw [unhide HLV]; rfl : ((leavesK qs).length : Int) = 2)
  have HB := hide (by rw [unhide HLV]; decide : (leavesK qs).length < 4096)
  go_wp2_with fail
  refine (sizeT_any t2 1 v2 qs w2 (unhide HT2)).mono ?_
  rintro e _ ⟨rfl, rfl⟩
  rw [unhide HL1]
  go_wp2_with fail
  refine (sizeT_any t 1 (.slice none 0 0) [] _ (unhide HT1b)).mono ?_
  rintro e _ ⟨rfl, rfl⟩
  rw [show ((leavesK []).length : Int) = 0 from rfl]
  go_wp2_with fail
  refine (widthT_any t2 1 v2 qs _ (unhide HT2)).mono ?_
  rintro e _ ⟨rfl, rfl⟩
  go_wp2_with fail
  refine (leafT_all 1 t2 v2 qs 1 _ (unhide HT2) (unhide HB)).mono ?_
  rintro e w3 ⟨rfl, k3⟩
  rw [show lfD (leavesK qs) 1 = d9 from by rw [unhide HLV]; rfl, show lfE (leavesK qs) 1 = 0 from by rw [unhide HLV]; rfl]
  have HT3 := hide ((unhide HT2).old k3)
  have HK3 := hide ((unhide HK2).trans k3 (by simp))
  clear k3 HT2 HT1b HK2
  have HN3 := hide (cell_new w3 d9)
  have HO3 := hide (kept_old w3 d9)
  have h9l : d9.length = 32 := rfl
  go_wp2_with (rw [zb32]; refine wpList_store_row rfl 43 (.tmp 5) _ rfl w3.heap.size (brow d9) rfl rfl _ (zb 32) (heap_alloc_new _ _) (Tryd.szD h9l) rfl (brow_one _) ?_)
  obtain ⟨w4, hw4⟩ : ∃ w4, (w3.alloc (.cells (zb 32) 43)).setRow w3.heap.size (brow d9) = w4 := ⟨_, rfl⟩
  rw [hw4] at HN3 HO3 ⊢
  clear hw4
  have HT4 := hide ((unhide HT3).old (unhide HO3))
  have HK4 := hide ((unhide HK3).trans (unhide HO3) (by simp))
  refine (rootT_all 1 t2 v2 qs 2 _ (unhide HT4) (unhide HB) ((unhide HTB).kept (unhide HK4) (by simp) (by simp)) ((unhide H6).kept (unhide HK4))).mono ?_
  rintro e w5 ⟨rfl, k5⟩
  rw [show rgD 1 (leavesK qs) 0 2 = nodS 1 d7 d9 from by rw [unhide HLV]; exact rg79, show rgE (leavesK qs) 0 2 = 0 from by rw [unhide HLV]; rfl]
  have HR := hide (fun W => refNode_any 1 d7 d9 W (by omega) d7_dg d9_dg)
  have hnl := (nodS_dg 1 d7 d9).1
  have HR2 := hide (fun W => (unhide HR W : Calls Tryd.prog 29 #[.int .i64 1, .agg (brow d7), .agg (brow d9)] W fun e w' => e = .returned (.agg (brow (nodS 1 d7 d9))) ∧ Kept [] W w'))
  generalize nodS 1 d7 d9 = D at HR2 hnl ⊢
  have HN5 := hide (k5.heap (unhide HN3) (by simp))
  have HK5 := hide ((unhide HK4).trans k5 (by simp))
  clear k5 HR HN3 HO3 HT3 HT4 HK4
  have HN6 := hide (cell_new w5 D)
  have HO6 := hide (kept_old w5 D)
  go_wp2_with (rw [zb32]; refine wpList_store_row rfl 43 (.tmp 7) _ rfl w5.heap.size (brow D) rfl rfl _ (zb 32) (heap_alloc_new _ _) (Tryd.szD hnl) (by rw [zb_size, brow_size, hnl]) (brow_one _) ?_)
  obtain ⟨w6, hw6⟩ : ∃ w6, (w5.alloc (.cells (zb 32) 43)).setRow w5.heap.size (brow D) = w6 := ⟨_, rfl⟩
  rw [hw6] at HN6 HO6 ⊢
  clear hw6
  have HM6 := hide ((unhide HO6).heap (unhide HN5) (by simp))
  have HK6 := hide ((unhide HK5).trans (unhide HO6) (by simp))
  clear HN5 HK5 HO6
  have hne : ∀ p : Prop, (∀ w', Kept [] w6 w' → p) = p := fun p => propext ⟨fun h => h w6 (Kept.refl [] w6), fun h _ _ => h⟩
  refine wp_region_keep (by kernel_rfl) (by kernel_rfl) ?_
  iterate 3 (go_big_quiet_step (fail))
  have HCT := hide (fun w' (hw' : Kept [] w6 w') => (unhide HR2 w').mono (fun e w2 (h2 : _ ∧ _) => (⟨h2.1, hw'.trans h2.2 (by simp)⟩ : _ ∧ Kept [] w6 w2)))
  refine wpQuiet_row rfl 43 (.tmp 5) rfl w3.heap.size rfl _ (brow d9) (0, 0) _ (fun w' hw' => hw'.heap (unhide HM6) (by simp)) Tryd.underlying43 rfl (Tryd.szD h9l) ?_
  simp only [Act.put, List.setIfInBounds_toArray, List.set_cons_succ, List.set_cons_zero]
  go_big_quiet_step (fail)
  refine wpQuiet_val rfl (.bool true) (fun w' _ => run_eql 43 (.tmp 61) (.tmp 62) 43 rfl (brow d9) (brow d9) rfl rfl w' true (by kernel_rfl) (by rw [dig_eq w' d9 d9 rfl rfl]; simp)) ?_
  simp only [Act.put, List.setIfInBounds_toArray, List.set_cons_succ, List.set_cons_zero]
  iterate 6 (go_big_quiet_step (fail))
  refine wpQuiet_row rfl 43 (.tmp 7) rfl w5.heap.size rfl _ (brow D) (0, 0) _ (fun w' hw' => hw'.heap (unhide HN6) (by simp)) Tryd.underlying43 rfl (Tryd.szD hnl) ?_
  simp only [Act.put, List.setIfInBounds_toArray, List.set_cons_succ, List.set_cons_zero]
  iterate 2 (go_big_quiet_step (fail))
  go_big_quiet_want
  go_big_quiet_op
  apply Exists.intro
  refine ⟨fun w' hw' => ?_, ?_⟩
  · exact unhide HCT w' hw'
  go_big_quiet_on
  refine wpQuiet_val rfl (.bool true) (fun w' _ => run_eql 43 (.tmp 70) (.tmp 73) 43 rfl (brow D) (brow D) rfl rfl w' true (by kernel_rfl) (by rw [dig_eq w' D D hnl hnl]; simp)) ?_
  simp only [Act.put, List.setIfInBounds_toArray, List.set_cons_succ, List.set_cons_zero]
  repeat (go_big_quiet_step (fail))
  refine wpQuiet_nil ?_
  intro w7 hw7
  have HK7 := hide ((unhide HK6).trans hw7 (by simp))
  clear hw7 hne
  go_wp2_with fail
  go_ret
  exact ⟨rfl, unhide HK7⟩
end Go.Proofs.YtcijeplafknokaaDoor
namespace Go.Proofs.YtcijeplafknokaaDoor
open Go.RowKit Go.BigFrame
set_option linter.unusedVariables false
set_option linter.unusedSimpArgs false

set_option maxRecDepth 100000 in
set_option maxHeartbeats 1000000 in
theorem reads_any (k : Nat) (hk : 1 ≤ k ∧ k ≤ 32) (t : Nat) (v lv : Value) (ps : List Pk) (w : World) (hT : TreeAt k w t v ps) (hl : RdD w lv (leavesK ps)) (hb : (leavesK ps).length < 4000) (hTb : Tabs w) (h6 : Tab6 w) :
    Calls Tryd.prog 12 #[.pointer (some ⟨t, 0, none⟩), .int .i64 k, lv] w fun e w' => e = .returned (.bool true) ∧ Kept [] w w' := by
  have HT := hide hT
  have HL := hide hl
  have HTB := hide hTb
  have H6 := hide h6
  have HPK := hide hT.pk
  obtain ⟨ao, len, cap, rfl, h1, h2, h3, h4, h5⟩ := hl
  obtain ⟨n, hn⟩ : ∃ n, (leavesK ps).length = n := ⟨_, rfl⟩
  have hnl : len = n := by rw [← h1, hn]
  subst hnl
  have HN := hide hn
  rw [hn] at hb
  have hwn : IntKind.u64.wrap (len : Int) = (len : Int) := by rw [wrU]; omega
  clear h4 h5 hT hTb h6 h1 hn
  go_enter Tryd.func12, Tryd.ntmps12
  go_wp2_with (simp only [hwn])
  refine (widthT_any t k v ps w (unhide HT)).mono ?_
  rintro e _ ⟨rfl, rfl⟩
  go_wp2_with fail
  refine (sizeT_any t k v ps _ (unhide HT)).mono ?_
  rintro e w0 ⟨rfl, rfl⟩
  rw [unhide HN]
  go_wp2_with fail
  have hn2 : IntKind.u64.wrap ((len : Int) + 2) = (len : Int) + 2 := by rw [wrU]; omega
  go_loopw [8] (fun t8 wr => ∃ (i : Nat), i ≤ len + 2 ∧ t8 = .int .u64 (i : Int) ∧ Hid (Kept [] w0 wr)) (fun t _ => len + 2 - (intOf t).toNat)
  case atStart => exact ⟨0, by omega, rfl, hide (Kept.refl _ _)⟩
  case round =>
    obtain ⟨i, hi, rfl, HKR⟩ := hrel
    by_cases hlt : i < len + 2
    · have hlt' : (i : Int) < (len : Int) + 2 := by omega
      have hadd : IntKind.u64.wrap ((i : Int) + 1) = ((i + 1 : Nat) : Int) := by rw [wrU]; omega
      have hdl := (lfD_dg (unhide HPK) i).1
      have HLF := hide (fun W (kk : Kept [] w0 W) => leafT_all k t v ps i W ((unhide HT).old kk) (by rw [unhide HN]; omega))
      have HDL := hide (fun W (kk : Kept [] w0 W) => docLeaf_all (.slice ao len cap) (leavesK ps) i W ((unhide HL).old kk) (by rw [unhide HN]; omega))
      generalize lfD (leavesK ps) i = D at HLF HDL hdl
      generalize lfE (leavesK ps) i = E at HLF HDL
      have hqd : ∀ W, (Op.equalIn 10000 43 (.agg (brow D)) (.agg (brow D))).run Tryd.prog W = .ok true W := dig_same D hdl
      go_wp2_with (simp only [hn2])
      refine (unhide HLF wr (unhide HKR)).mono ?_
      rintro e w3 ⟨rfl, k3⟩
      have HK3 := hide ((unhide HKR).trans k3 (by simp))
      clear k3
      have HN3 := hide (cell_new w3 D)
      have HO3 := hide (kept_old w3 D)
      go_wp2_with (rw [zb32]; refine wpList_store_row rfl 43 (.tmp 9) _ rfl w3.heap.size (brow D) rfl rfl _ (zb 32) (heap_alloc_new _ _) (Tryd.szD hdl) (by rw [zb_size, brow_size, hdl]) (brow_one _) ?_)
      obtain ⟨w4, hw4⟩ : ∃ w4, (w3.alloc (.cells (zb 32) 43)).setRow w3.heap.size (brow D) = w4 := ⟨_, rfl⟩
      rw [hw4] at HN3 HO3 ⊢
      clear hw4
      have HK4 := hide ((unhide HK3).trans (unhide HO3) (by simp))
      refine (unhide HDL w4 (unhide HK4)).mono ?_
      rintro e w5 ⟨rfl, k5⟩
      have HN5 := hide (k5.heap (unhide HN3) (by simp))
      have HK5 := hide ((unhide HK4).trans k5 (by simp))
      clear k5 HN3 HO3 HK4 HK3
      have HN6 := hide (cell_new w5 D)
      have HO6 := hide (kept_old w5 D)
      have HM6 := hide ((unhide HO6).heap (unhide HN5) (by simp))
      have HK6 := hide ((unhide HK5).trans (unhide HO6) (by simp))
      go_wp2_with (first
        | (rw [zb32]; refine wpList_store_row rfl 43 (.tmp 11) _ rfl w5.heap.size (brow D) rfl rfl _ (zb 32) (heap_alloc_new _ _) (Tryd.szD hdl) (by rw [zb_size, brow_size, hdl]) (brow_one _) ?_)
        | (refine wpList_load_row rfl 43 (.tmp 9) rfl w3.heap.size rfl _ (brow D) (0, 0) _ (unhide HM6) Tryd.underlying43 rfl (Tryd.szD hdl) ?_)
        | (refine wpList_load_row rfl 43 (.tmp 11) rfl w5.heap.size rfl _ (brow D) (0, 0) _ (unhide HN6) Tryd.underlying43 rfl (Tryd.szD hdl) ?_))
      go_wp2_with (simp only [hadd])
      refine ⟨⟨i + 1, by omega, by simp, HK6⟩, ?_⟩
      simp [intOf]
      omega
    · have hlt' : ¬ (i : Int) < (len : Int) + 2 := by omega
      go_wp2_with (simp only [hn2])
      have HG0 := hide (heap_alloc_new wr (.cells #[.int .u64 0, .int .u64 1, .int .u64 ((len : Int) / 2), .int .u64 (IntKind.u64.wrap ((len : Int) - 1)), .int .u64 (len : Int), .int .u64 ((len : Int) + 1), .int .u64 18446744073709551615] 46))
      have HKW := hide ((unhide HKR).alloc (.cells #[.int .u64 0, .int .u64 1, .int .u64 ((len : Int) / 2), .int .u64 (IntKind.u64.wrap ((len : Int) - 1)), .int .u64 (len : Int), .int .u64 ((len : Int) + 1), .int .u64 18446744073709551615] 46))
      obtain ⟨W2, hW2⟩ : ∃ W2, wr.alloc (.cells #[.int .u64 0, .int .u64 1, .int .u64 ((len : Int) / 2), .int .u64 (IntKind.u64.wrap ((len : Int) - 1)), .int .u64 (len : Int), .int .u64 ((len : Int) + 1), .int .u64 18446744073709551615] 46) = W2 := ⟨_, rfl⟩
      rw [hW2] at HG0 HKW ⊢
      have HAT := hide (fun j (hj : j < 7) => (by
        have h9 := cell_of_row _ _ j _ _ _ (unhide HG0)
        rw [h9]
        rcases (by omega : j = 0 ∨ j = 1 ∨ j = 2 ∨ j = 3 ∨ j = 4 ∨ j = 5 ∨ j = 6) with rfl | rfl | rfl | rfl | rfl | rfl | rfl
        · exact ⟨0, rfl, by omega⟩
        · exact ⟨1, rfl, by omega⟩
        · exact ⟨len / 2, by simp, by omega⟩
        · refine ⟨(IntKind.u64.wrap ((len : Int) - 1)).toNat, ?_, ?_⟩
          · rw [wrU, Int.toNat_of_nonneg (by omega)]; rfl
          · rw [wrU]; omega
        · exact ⟨len, rfl, by omega⟩
        · exact ⟨len + 1, by simp, by omega⟩
        · exact ⟨18446744073709551615, rfl, by omega⟩ : ∃ a : Nat, W2.cell? ⟨wr.heap.size, j, none⟩ = some (.int .u64 (a : Int)) ∧ a < 18446744073709551616))
      obtain ⟨g, hg⟩ : ∃ g, wr.heap.size = g := ⟨_, rfl⟩
      rw [hg] at HAT ⊢
      clear hW2 HG0 hg HKR
      go_loopw [71] (fun t71 wq => ∃ (j : Nat), j ≤ 7 ∧ t71 = .int .i64 (j : Int) ∧ Hid (Kept [] W2 wq)) (fun t _ => 7 - (intOf t).toNat)
      case atStart => exact ⟨0, by omega, rfl, hide (Kept.refl _ _)⟩
      case round =>
        obtain ⟨j, hj, rfl, HKQ⟩ := hrel
        by_cases hjl : j < 7
        · have hjl' : (j : Int) < 7 := by omega
          obtain ⟨a, hca, ha⟩ := unhide HAT j hjl
          have hca2 := (unhide HKQ).cell hca (by simp)
          have HKR := hide (unhide HKQ)
          have hdl := (rgD_len (unhide HPK) 0 a).1
          have HLF := hide (fun W (kk : Kept [] W2 W) => rootT_all k t v ps a W ((unhide HT).old ((unhide HKW).trans kk (by simp))) (by rw [unhide HN]; omega) ((unhide HTB).kept ((unhide HKW).trans kk (by simp)) (by simp) (by simp)) ((unhide H6).kept ((unhide HKW).trans kk (by simp))))
          have HDL := hide (fun W (kk : Kept [] W2 W) => docRange_all k hk (.slice ao len cap) (leavesK ps) 0 a W ((unhide HL).old ((unhide HKW).trans kk (by simp))) (by rw [unhide HN]; omega))
          generalize rgD k (leavesK ps) 0 a = D at HLF HDL hdl
          generalize rgE (leavesK ps) 0 a = E at HLF HDL
          have hqd : ∀ W, (Op.equalIn 10000 43 (.agg (brow D)) (.agg (brow D))).run Tryd.prog W = .ok true W := dig_same D hdl
          clear hca
          go_wp2_with fail
          refine (unhide HLF wr (unhide HKR)).mono ?_
          rintro e w3 ⟨rfl, k3⟩
          have HK3 := hide ((unhide HKR).trans k3 (by simp))
          clear k3
          have HN3 := hide (cell_new w3 D)
          have HO3 := hide (kept_old w3 D)
          go_wp2_with (rw [zb32]; refine wpList_store_row rfl 43 (.tmp 15) _ rfl w3.heap.size (brow D) rfl rfl _ (zb 32) (heap_alloc_new _ _) (Tryd.szD hdl) (by rw [zb_size, brow_size, hdl]) (brow_one _) ?_)
          obtain ⟨w4, hw4⟩ : ∃ w4, (w3.alloc (.cells (zb 32) 43)).setRow w3.heap.size (brow D) = w4 := ⟨_, rfl⟩
          rw [hw4] at HN3 HO3 ⊢
          clear hw4
          have HK4 := hide ((unhide HK3).trans (unhide HO3) (by simp))
          refine (unhide HDL w4 (unhide HK4)).mono ?_
          rintro e w5 ⟨rfl, k5⟩
          have HN5 := hide (k5.heap (unhide HN3) (by simp))
          have HK5 := hide ((unhide HK4).trans k5 (by simp))
          clear k5 HN3 HO3 HK4 HK3
          have HN6 := hide (cell_new w5 D)
          have HO6 := hide (kept_old w5 D)
          have HM6 := hide ((unhide HO6).heap (unhide HN5) (by simp))
          have HK6 := hide ((unhide HK5).trans (unhide HO6) (by simp))
          go_wp2_with (first
            | (rw [zb32]; refine wpList_store_row rfl 43 (.tmp 17) _ rfl w5.heap.size (brow D) rfl rfl _ (zb 32) (heap_alloc_new _ _) (Tryd.szD hdl) (by rw [zb_size, brow_size, hdl]) (brow_one _) ?_)
            | (refine wpList_load_row rfl 43 (.tmp 15) rfl w3.heap.size rfl _ (brow D) (0, 0) _ (unhide HM6) Tryd.underlying43 rfl (Tryd.szD hdl) ?_)
            | (refine wpList_load_row rfl 43 (.tmp 17) rfl w5.heap.size rfl _ (brow D) (0, 0) _ (unhide HN6) Tryd.underlying43 rfl (Tryd.szD hdl) ?_))
          go_wp2_with fail
          refine ⟨⟨j + 1, by omega, by simp, ?_⟩, ?_⟩
          · exact HK6
          · simp [intOf]
            omega
        · have hjl' : ¬ (j : Int) < 7 := by omega
          have HKF := hide ((unhide HKW).trans (unhide HKQ) (by simp))
          go_wp2_with fail
          go_ret
          exact ⟨rfl, unhide HKF⟩
end Go.Proofs.YtcijeplafknokaaDoor
namespace Go.Proofs.YtcijeplafknokaaDoor
open Go.RowKit Go.BigFrame
set_option linter.unusedVariables false
set_option linter.unusedSimpArgs false

/-- Are the width and all leaves fit? -/
def fitB (z : Int) (ls : List (List Nat)) : Bool := widthB z && ls.all (formB z)

set_option maxRecDepth 100000 in
set_option maxHeartbeats 1000000 in
theorem fit_any (z : Int) (lv : Value) (ls : List (List Nat)) (w : World) (hz : -9223372036854775808 ≤ z ∧ z ≤ 9223372036854775807) (hl : RdD w lv ls) :
    Calls Tryd.prog 26 #[.int .i64 z, lv] w fun e w' => e = .returned (.bool (fitB z ls)) ∧ Kept [] w w' := by
  have HL := hide hl
  obtain ⟨ao, len, cap, rfl, h1, h2, h3, h4, h5⟩ := hl
  subst h1
  clear h4 h5
  obtain ⟨E, hE⟩ : ∃ E, fitB z ls = E := ⟨_, rfl⟩
  rw [hE]
  have HE := hide hE
  clear hE
  go_enter Tryd.func26, Tryd.ntmps26
  go_wp2_with fail
  refine (rwidth_any z w hz).mono ?_
  rintro e w0 ⟨rfl, rfl⟩
  cases hwd : widthB z with
  | false =>
    have HE1 := hide (by rw [← unhide HE]; unfold fitB; rw [hwd]; rfl : E = false)
    go_wp2_with fail
    go_ret
    exact ⟨by rw [unhide HE1]; rfl, Kept.refl _ _⟩
  | true =>
    have HWD := hide hwd
    clear hwd
    go_wp2_with fail
    go_loopw [12] (fun t12 wr => ∃ (i : Nat), i ≤ ls.length ∧ t12 = .int .i64 i ∧ Hid ((ls.take i).all (formB z) = true) ∧ Hid (Kept [] w0 wr)) (fun t _ => ls.length - (intOf t).toNat)
    case atStart => exact ⟨0, Nat.zero_le _, rfl, hide (by simp), hide (Kept.refl _ _)⟩
    case round =>
      obtain ⟨j, hj, rfl, HAJ, HKJ⟩ := hrel
      by_cases hjl : j < ls.length
      · have hjl' : (j : Int) < ls.length := by omega
        obtain ⟨ra, rl, rc, re, r1, r2, r3, r4, r5⟩ := unhide HL
        cases re
        obtain ⟨b, o, rfl, hcell⟩ := r5 (by omega)
        have HD := hide (r4 (ls.getD j []) (by rw [List.getD_eq_getElem?_getD, List.getElem?_eq_getElem hjl]; exact List.getElem_mem hjl))
        have HRG := hide (fun u v hv => (unhide HKJ).cell (hcell j hjl u v hv) (by simp) : wr.rangeAt b (o + j * 32) ((ls.getD j []).map Go.Proofs.YtcijeplafknokaaDoor.u8))
        have HN := hide (by rw [List.take_succ_eq_append_getElem hjl, List.all_append, unhide HAJ, List.getD_eq_getElem?_getD, List.getElem?_eq_getElem hjl]; simp : (ls.take (j + 1)).all (formB z) = formB z (ls.getD j []))
        have HM := hide (fun (h : formB z (ls.getD j []) = false) => by
          have h9 : ls.all (formB z) = false := by
            rw [List.all_eq_false]
            exact ⟨ls.getD j [], by rw [List.getD_eq_getElem?_getD, List.getElem?_eq_getElem hjl]; exact List.getElem_mem hjl, by rw [h]; decide⟩
          rw [← unhide HE]; unfold fitB; rw [h9, Bool.and_false] : formB z (ls.getD j []) = false → E = false)
        clear hcell r4 r5
        obtain ⟨d, hd⟩ : ∃ d, ls.getD j [] = d := ⟨_, rfl⟩
        rw [hd] at HD HRG HN HM
        clear hd
        have hdl := (unhide HD).1
        have HSZ := hide (by rw [brow_size, hdl]; exact Tryd.size_dig : (Tryd.prog.info? 43).map (·.size) = some (brow d).size)
        have HNW := hide (setRow_heap (wr.alloc (.cells (zb 32) 43)) wr.heap.size (zb 32) (brow d) 43 (0, 0) (heap_alloc_new _ _))
        have HKN := hide (((unhide HKJ).alloc (.cells (zb 32) 43)).setRow (g := wr.heap.size) (Or.inr (unhide HKJ).size) (brow d))
        go_wp2_with (first
          | (refine wpList_load_mid rfl 43 (.tmp 14) rfl b (o + j * 32) rfl (d.map Go.Proofs.YtcijeplafknokaaDoor.u8) _ (unhide HRG) Tryd.underlying43 rfl (by rw [List.length_map, hdl]; exact Tryd.size_dig) ?_)
          | (rw [zb32]; refine wpList_store_row rfl 43 (.tmp 6) _ rfl wr.heap.size (brow d) rfl rfl _ (zb 32) (heap_alloc_new _ _) (unhide HSZ) (by rw [zb_size, brow_size, hdl]) (brow_one _) ?_)
          | (refine wpList_load_row rfl 43 (.tmp 6) rfl wr.heap.size rfl _ (brow d) (0, 0) _ (unhide HNW) Tryd.underlying43 rfl (unhide HSZ) ?_))
        refine Calls.mono (docForm_any z d _ hz hdl (unhide HD).2) ?_
        rintro e w4 ⟨rfl, k4⟩
        have HK4 := hide ((unhide HKN).trans k4 (by simp))
        clear k4
        cases hf : formB z d with
        | true =>
          rw [hf] at HN
          clear hf
          go_wp2
          go_roundw
          case rel => exact ⟨j + 1, by omega, by go_num, HN, HK4⟩
          case measure => simp [intOf]; omega
        | false =>
          have HF := hide (unhide HM hf)
          clear hf
          go_wp2
          go_ret
          exact ⟨by rw [unhide HF]; rfl, unhide HK4⟩
      · have hjl' : ¬ (j : Int) < ls.length := by omega
        have hje : j = ls.length := by omega
        subst hje
        rw [List.take_length] at HAJ
        have HE1 := hide (by rw [← unhide HE]; unfold fitB; rw [unhide HWD, unhide HAJ]; rfl : E = true)
        go_wp2
        go_ret
        exact ⟨by rw [unhide HE1]; rfl, unhide HKJ⟩

theorem newT_all (z : Int) (w : World) :
    Calls Tryd.prog 10 #[.int .i64 z] w fun e w' => ∃ p er, e = .returned (.tuple #[.pointer p, .int .i64 er]) ∧ (widthB z = true → ∃ t, p = some ⟨t, 0, none⟩ ∧ TreeAt z w' t (.slice none 0 0) []) ∧ Kept [] w w' := by
  cases hw : widthB z with
  | false => exact (newT_bad z w hw).mono fun e w' h => ⟨_, _, h.1, fun h9 => by simp at h9, h.2⟩
  | true => exact (newT_any z w hw).mono fun e w' ⟨t, h1, _, h2, h3⟩ => ⟨_, _, h1, fun _ => ⟨t, rfl, h2⟩, h3⟩

/-- What grown answers. -/
def GrD (z : Int) (ls : List (List Nat)) (w : World) (e : Ending) (w' : World) : Prop :=
  (fitB z ls = true ∧ ls.length ≤ 400 → ∃ t v qs, e = .returned (.tuple #[.pointer (some ⟨t, 0, none⟩), .bool true]) ∧ TreeAt z w' t v qs ∧ leavesK qs = ls ∧ (qs = [] → v = .slice none 0 0)) ∧
  (¬ (fitB z ls = true ∧ ls.length ≤ 400) → e = .returned (.tuple #[.pointer none, .bool false])) ∧ Kept [] w w'

set_option maxRecDepth 100000 in
set_option maxHeartbeats 1000000 in
theorem grown_any (z : Int) (lv : Value) (ls : List (List Nat)) (st : Nat) (w : World) (hz : -9223372036854775808 ≤ z ∧ z ≤ 9223372036854775807) (hst : 1 ≤ st ∧ st ≤ 1000) (hl : RdD w lv ls) (hT : Tabs w) (h6 : Tab6 w) :
    Calls Tryd.prog 15 #[.int .i64 z, lv, .int .i64 st] w (GrD z ls w) := by
  have HL := hide hl
  have HTB := hide hT
  have H6 := hide h6
  obtain ⟨ao, len, cap, rfl, h1, h2, h3, h4, h5⟩ := hl
  subst h1
  clear h4 h5 hT h6
  go_enter Tryd.func15, Tryd.ntmps15
  go_wp2_with fail
  refine (newT_all z w).mono ?_
  rintro e w1 ⟨p, er, rfl, hp, k1⟩
  have HP := hide hp
  have HK1 := hide k1
  clear hp k1
  by_cases h400 : 400 < ls.length
  · have h400' : (400 : Int) < ls.length := by omega
    go_wp2_with fail
    exact bodyPost_ret (results_tmp2 rfl _ _ _) rfl ⟨fun h => by omega, fun _ => rfl, unhide HK1⟩
  · have h400' : ¬ (400 : Int) < ls.length := by omega
    go_wp2_with fail
    refine (fit_any z (.slice ao ls.length cap) ls w1 hz ((unhide HL).old (unhide HK1))).mono ?_
    rintro e w2 ⟨rfl, k2⟩
    have HK2 := hide ((unhide HK1).trans k2 (by simp))
    cases hfit : fitB z ls with
    | false =>
      clear k2
      go_wp2_with fail
      exact bodyPost_ret (results_tmp2 rfl _ _ _) rfl ⟨fun h => by rw [hfit] at h; simp at h, fun _ => rfl, unhide HK2⟩
    | true =>
      have hfit2 := hfit
      unfold fitB at hfit2
      rw [Bool.and_eq_true] at hfit2
      obtain ⟨t0, rfl, htr⟩ := unhide HP hfit2.1
      have HT0 := hide (htr.old k2)
      have HALL := hide hfit2.2
      have HFIT := hide hfit
      clear k2 hfit hfit2 htr HP
      go_wp2_with fail
      go_loopw [8, 10] (fun t8 t10 wr => ∃ (at_ t : Nat) (v : Value) (qs : List Pk), t8 = .pointer (some ⟨t, 0, none⟩) ∧ t10 = .int .i64 (at_ : Int) ∧ at_ ≤ 2000 ∧ Hid (TreeAt z wr t v qs) ∧ Hid (leavesK qs = ls.take at_) ∧ Hid (qs = [] → v = .slice none 0 0) ∧ Hid (Kept [] w wr)) (fun _ t _ => ls.length - (intOf t).toNat)
      case atStart => exact ⟨0, t0, _, [], rfl, rfl, by omega, HT0, hide rfl, hide (fun _ => rfl), HK2⟩
      case round =>
        obtain ⟨at_, t, v, qs, rfl, rfl, hat, HT, HLV, HNL, HKR⟩ := hrel
        by_cases hlt : at_ < ls.length
        · have hlt' : (at_ : Int) < ls.length := by omega
          obtain ⟨hi, hhi⟩ : ∃ hi, min (at_ + st) ls.length = hi := ⟨_, rfl⟩
          have hmin : min ((at_ : Int) + (st : Int)) (ls.length : Int) = (hi : Int) := by omega
          have hh1 : at_ ≤ hi ∧ hi ≤ ls.length := by omega
          have HPC := hide (fun (ao' : Option Addr) (ho : at_ < hi → ∀ b off, ao = some ⟨b, off, none⟩ → ao' = some ⟨b, off + at_ * 32, none⟩) => (RdD.piece (c' := cap - at_) (unhide HL) hh1.1 hh1.2 (by omega) ao' ho).old (unhide HKR))
          have HPF := hide (List.all_eq_true.2 (fun d hd => List.all_eq_true.1 (unhide HALL) d (List.mem_of_mem_drop (List.mem_of_mem_take hd))) : ((ls.drop at_).take (hi - at_)).all (formB z) = true)
          have HTK := hide (by
            have e1 : ls.take (at_ + st) = ls.take hi := by
              rcases Nat.le_total (at_ + st) ls.length with h9 | h9
              · rw [show hi = at_ + st by omega]
              · rw [List.take_of_length_le h9, List.take_of_length_le (by omega)]
            rw [e1]
            have e2 : hi = at_ + (hi - at_) := by omega
            conv => rhs; rw [e2, List.take_add]
            : ls.take at_ ++ (ls.drop at_).take (hi - at_) = ls.take (at_ + st))
          have HLN := hide (by rw [unhide HLV, List.length_take, List.length_take]; omega : (leavesK qs).length + ((ls.drop at_).take (hi - at_)).length ≤ 1000000000)
          have q1 : ¬ (hi : Int) < at_ := by omega
          have q2 : ¬ (cap : Int) < hi := by omega
          have q3 : ¬ cap = at_ := by omega
          have q4 : ¬ at_ = cap := by omega
          have q5 : ¬ (cap : Int) = at_ := by omega
          have q6 : ¬ (hi : Int) < 0 := by omega
          have w1' : IntKind.i64.wrap ((at_ : Int) + (st : Int)) = (at_ : Int) + (st : Int) := by simp [IntKind.wrap, IntKind.signed, IntKind.bits]; omega
          go_wp2_with (simp only [hmin])
          refine (appendT_any z t v (.slice (Option.map (fun x => x.add (at_ * 32)) ao) (hi - at_) (cap - at_)) qs ((ls.drop at_).take (hi - at_)) wr (unhide HT) (unhide HNL) (unhide HPC _ (fun _ b off e => by rw [e]; simp [Addr.add_mid])) (unhide HLN) ((unhide HTB).kept (unhide HKR) (by simp) (by simp)) ((unhide H6).kept (unhide HKR))).mono ?_
          rintro e w4 ⟨ha, _, k4⟩
          obtain ⟨t2, v2, rs, rfl, _, htr2, hlv2, hnl2⟩ := ha (unhide HPF)
          have HT2 := hide htr2
          have HLV2 := hide (by rw [hlv2, unhide HLV]; exact unhide HTK : leavesK rs = ls.take (at_ + st))
          have HNL2 := hide hnl2
          have HKR2 := hide ((unhide HKR).trans k4 (by simp))
          clear htr2 hlv2 hnl2 k4 ha HT HLV HNL HKR HPC HPF HTK HLN
          go_wp2_with fail
          refine ⟨⟨at_ + st, t2, v2, rs, rfl, by simp, by omega, HT2, HLV2, HNL2, HKR2⟩, ?_⟩
          simp [intOf]
          omega
        · have hlt' : ¬ (at_ : Int) < ls.length := by omega
          have HLV2 := hide (by rw [unhide HLV, List.take_of_length_le (by omega)] : leavesK qs = ls)
          go_wp2_with fail
          exact bodyPost_ret (results_tmp2 rfl _ _ _) rfl ⟨fun _ => ⟨t, v, qs, rfl, unhide HT, unhide HLV2, unhide HNL⟩, fun h => absurd ⟨unhide HFIT, by omega⟩ h, unhide HKR⟩
end Go.Proofs.YtcijeplafknokaaDoor
namespace Go.Proofs.YtcijeplafknokaaDoor
open Go.ChangeShapes Go.WideShapes Go.ChangeAt Go.RowKit Go.Deep
set_option linter.unusedVariables false
set_option linter.unusedSimpArgs false

theorem own : ownKnob Tryd.prog.godebug = none := by kernel_rfl
theorem laidOut : laidOutB Tryd.prog = true := by kernel_rfl
theorem byte_of_wf {x : Int} (h : (Lit.int .u8 x).wf = true) : 0 ≤ x ∧ x < 256 := by
  simp [Lit.wf, IntKind.min, IntKind.max, IntKind.signed, IntKind.bits] at h
  exact ⟨by omega, by omega⟩
theorem int_of_wf {x : Int} (h : (Lit.int .i64 x).wf = true) : -9223372036854775808 ≤ x ∧ x ≤ 9223372036854775807 := by
  simp [Lit.wf, IntKind.min, IntKind.max, IntKind.signed, IntKind.bits] at h
  exact ⟨by omega, by omega⟩

theorem bulk_one {H : Type} (d : DataW H) : 1 ≤ Rows.uptoBulk d := by
  cases d with
  | lit l => cases l <;> simp [Rows.uptoBulk]
  | nil => simp [Rows.uptoBulk]
  | ptr d => simp [Rows.uptoBulk]
  | slice elems spare => simp [Rows.uptoBulk]
  | agg parts => simp [Rows.uptoBulk]
  | iface t d => simp [Rows.uptoBulk]
  | map entries => simp [Rows.uptoBulk]
  | held h => simp [Rows.uptoBulk]
theorem bulk_len {H : Type} (l : List (DataW H)) : l.length ≤ Rows.uptoBulkAll l := by
  induction l with
  | nil => simp [Rows.uptoBulkAll]
  | cons x r ih => have := bulk_one x; simp only [Rows.uptoBulkAll, List.length_cons]; omega
theorem Tryd.bytes5 : Tryd.prog.bytesOf 5 = 1 := by kernel_rfl

section
variable {H : Type} {enc : TypeId × Value → H} {W : World}

/-- Bytes that came in, as the walks want them, of whatever length. -/
theorem open_bytes {fuel : Nat} {cs : List Value} {x : DataW H × List MemPlace} (h : DataW.trod enc Tryd.prog W 0 (fun _ => true) true fuel 81 cs = some x) :
    ∃ v bs, cs = [v] ∧ (bs.length ≤ 140737488355328 → Rd W v bs) ∧ ((bs = [] ∧ x.1 = .nil) ∨ ∃ elems spare, x.1 = .slice elems spare ∧ elems.length = bs.length) := by
  rcases open_ints Tryd.underlying81 Tryd.underlying5 (by kernel_rfl) h with ⟨rfl, rfl⟩ | ⟨a, len, cap, zs, rfl, _, hl, hm, hz, rfl, hcell, hwz⟩
  · exact ⟨_, [], rfl, fun _ => Rd.nil W, .inl ⟨rfl, rfl⟩⟩
  · have h2 : (lits (H := H) .u8 (zs.take len)).length = len := by simp only [lits, List.length_map, List.length_take]; simp at hz; omega
    have hbl : ((zs.take len).map Int.toNat).length = len := by simp at hz; simp; omega
    refine ⟨_, (zs.take len).map Int.toNat, rfl, fun hB => ⟨_, _, _, rfl, hbl, hl, ⟨by unfold maxLen at hm; omega, by omega⟩, by simp, ?_, ?_⟩, .inr ⟨_, _, rfl, by rw [h2, hbl]⟩⟩
    · intro y hy
      obtain ⟨z, hz1, rfl⟩ := List.mem_map.1 hy
      have := byte_of_wf (hwz z (List.mem_of_mem_take hz1)); omega
    · intro hp
      simp at hz
      have hc0 := hcell 0 (by omega)
      obtain ⟨b, off, spot⟩ := a
      have hspot : spot = none := by simpa [Addr.add] using World.cell?_spot hc0
      subst hspot
      refine ⟨b, off, rfl, fun i hi => ?_⟩
      have hc := hcell i (by omega)
      have hzi : i < zs.length := by omega
      rw [Addr.add_mid] at hc
      rw [hc]
      have hw := byte_of_wf (hwz (zs[i]) (List.getElem_mem hzi))
      simp only [List.getD_eq_getElem?_getD, List.getElem?_eq_getElem hzi, Option.getD_some, List.getElem?_map, List.getElem?_take, hi, if_true, Option.map_some]
      simp [u8]; omega
/-- Their length, by the reach. -/
theorem reach_bytes {ts : List TypeId} {ds : List (DataW H)} (h : (DataW.weightsEach Tryd.prog ts ds).all (· ≤ reachBytes) = true) {j : Nat} (ht : ts[j]? = some 81) {d : DataW H} (hd : ds[j]? = some d) {bs : List Nat}
    (hx : (bs = [] ∧ d = .nil) ∨ ∃ elems spare, d = .slice elems spare ∧ elems.length = bs.length) : bs.length ≤ 140737488351232 := by
  rcases hx with ⟨rfl, _⟩ | ⟨elems, spare, rfl, he⟩
  · simp
  · have := sized_slice h ht hd Tryd.underlying81
    rw [Tryd.bytes5, Nat.mul_one] at this
    unfold reachBytes at this
    omega
/-- Their length, by the bulk. -/
theorem bulk_bytes {d : DataW H} {bs : List Nat} (hx : (bs = [] ∧ d = .nil) ∨ ∃ elems spare, d = .slice elems spare ∧ elems.length = bs.length) : bs.length + 1 ≤ Rows.uptoBulk d := by
  rcases hx with ⟨rfl, rfl⟩ | ⟨elems, spare, rfl, he⟩
  · simp [Rows.uptoBulk]
  · have := bulk_len elems
    simp only [Rows.uptoBulk]; omega
end
end Go.Proofs.YtcijeplafknokaaDoor
namespace Go.Proofs.YtcijeplafknokaaDoor
open Go.RowKit
set_option linter.unusedVariables false
set_option linter.unusedSimpArgs false

/-- The slice value v reads as these numbers of 64 bits. -/
def RdQ (w : World) (v : Value) (xs : List Nat) : Prop :=
  ∃ (ao : Option Addr) (len cap : Nat), v = .slice ao len cap ∧ xs.length = len ∧ len ≤ cap ∧ cap ≤ 9223372036854775807 ∧ (∀ x ∈ xs, x < 18446744073709551616) ∧
    (0 < len → ∃ b off, ao = some ⟨b, off, none⟩ ∧ ∀ i, i < len → w.cell? ⟨b, off + i, none⟩ = some (.int .u64 ((xs.getD i 0 : Nat) : Int)))
theorem RdQ.old {w0 w : World} {v : Value} {ws : List Nat} (h : RdQ w0 v ws) (k : Kept [] w0 w) : RdQ w v ws := by
  obtain ⟨ao, len, cap, rfl, h1, h2, h3, h5, h6⟩ := h
  refine ⟨ao, len, cap, rfl, h1, h2, h3, h5, fun hp => ?_⟩
  obtain ⟨b, off, rfl, hc⟩ := h6 hp
  exact ⟨b, off, rfl, fun i hi => k.cell (hc i hi) (by simp)⟩
end Go.Proofs.YtcijeplafknokaaDoor
/-
  Laws for drawn regions, by genreg.py. No program.
-/
namespace Go.Proofs.YtcijeplafknokaaDoor
open Go Go.RowKit Go.BigFrame
set_option linter.unusedVariables false
set_option linter.unusedSimpArgs false
section
variable {P : Program} {Q : Exit → Act → World → Prop}
theorem wp_em14 {id : Nat} {o0 o1 o2 o3 o4 o5 o6 o7 o8 o9 o10 o11 o12 o13 : Oper} {a : Act} {w : World} (hm : P.follows .mixedOrders = true) (hs : Region.noSelect #[o0, o1, o2, o3, o4, o5, o6, o7, o8, o9, o10, o11, o12, o13] = true)
    (f0 : Region.free .any #[o0, o1, o2, o3, o4, o5, o6, o7, o8, o9, o10, o11, o12, o13] #[false, false, false, false, false, false, false, false, false, false, false, false, false, false] 0 = true) (r0 : (Region.ready .any #[o0, o1, o2, o3, o4, o5, o6, o7, o8, o9, o10, o11, o12, o13] #[false, false, false, false, false, false, false, false, false, false, false, false, false, false]).contains 0 = true)
    (f1 : Region.free .any #[o0, o1, o2, o3, o4, o5, o6, o7, o8, o9, o10, o11, o12, o13] #[true, false, false, false, false, false, false, false, false, false, false, false, false, false] 1 = true) (r1 : (Region.ready .any #[o0, o1, o2, o3, o4, o5, o6, o7, o8, o9, o10, o11, o12, o13] #[true, false, false, false, false, false, false, false, false, false, false, false, false, false]).contains 1 = true)
    (f2 : Region.free .any #[o0, o1, o2, o3, o4, o5, o6, o7, o8, o9, o10, o11, o12, o13] #[true, true, false, false, false, false, false, false, false, false, false, false, false, false] 2 = true) (r2 : (Region.ready .any #[o0, o1, o2, o3, o4, o5, o6, o7, o8, o9, o10, o11, o12, o13] #[true, true, false, false, false, false, false, false, false, false, false, false, false, false]).contains 2 = true)
    (f3 : Region.free .any #[o0, o1, o2, o3, o4, o5, o6, o7, o8, o9, o10, o11, o12, o13] #[true, true, true, false, false, false, false, false, false, false, false, false, false, false] 3 = true) (r3 : (Region.ready .any #[o0, o1, o2, o3, o4, o5, o6, o7, o8, o9, o10, o11, o12, o13] #[true, true, true, false, false, false, false, false, false, false, false, false, false, false]).contains 3 = true)
    (f4 : Region.free .any #[o0, o1, o2, o3, o4, o5, o6, o7, o8, o9, o10, o11, o12, o13] #[true, true, true, true, false, false, false, false, false, false, false, false, false, false] 4 = true) (r4 : (Region.ready .any #[o0, o1, o2, o3, o4, o5, o6, o7, o8, o9, o10, o11, o12, o13] #[true, true, true, true, false, false, false, false, false, false, false, false, false, false]).contains 4 = true)
    (f5 : Region.free .any #[o0, o1, o2, o3, o4, o5, o6, o7, o8, o9, o10, o11, o12, o13] #[true, true, true, true, true, false, false, false, false, false, false, false, false, false] 5 = true) (r5 : (Region.ready .any #[o0, o1, o2, o3, o4, o5, o6, o7, o8, o9, o10, o11, o12, o13] #[true, true, true, true, true, false, false, false, false, false, false, false, false, false]).contains 5 = true)
    (f6 : Region.free .any #[o0, o1, o2, o3, o4, o5, o6, o7, o8, o9, o10, o11, o12, o13] #[true, true, true, true, true, true, false, false, false, false, false, false, false, false] 6 = true) (r6 : (Region.ready .any #[o0, o1, o2, o3, o4, o5, o6, o7, o8, o9, o10, o11, o12, o13] #[true, true, true, true, true, true, false, false, false, false, false, false, false, false]).contains 6 = true)
    (q_ : Region.ready .any #[o0, o1, o2, o3, o4, o5, o6, o7, o8, o9, o10, o11, o12, o13] #[true, true, true, true, true, true, true, false, false, false, false, false, false, false] = [7, 11])
    (f_7_8 : Region.free .any #[o0, o1, o2, o3, o4, o5, o6, o7, o8, o9, o10, o11, o12, o13] #[true, true, true, true, true, true, true, true, false, false, false, false, false, false] 8 = true) (r_7_8 : (Region.ready .any #[o0, o1, o2, o3, o4, o5, o6, o7, o8, o9, o10, o11, o12, o13] #[true, true, true, true, true, true, true, true, false, false, false, false, false, false]).contains 8 = true)
    (f_7_9 : Region.free .any #[o0, o1, o2, o3, o4, o5, o6, o7, o8, o9, o10, o11, o12, o13] #[true, true, true, true, true, true, true, true, true, false, false, false, false, false] 9 = true) (r_7_9 : (Region.ready .any #[o0, o1, o2, o3, o4, o5, o6, o7, o8, o9, o10, o11, o12, o13] #[true, true, true, true, true, true, true, true, true, false, false, false, false, false]).contains 9 = true)
    (f_7_10 : Region.free .any #[o0, o1, o2, o3, o4, o5, o6, o7, o8, o9, o10, o11, o12, o13] #[true, true, true, true, true, true, true, true, true, true, false, false, false, false] 10 = true) (r_7_10 : (Region.ready .any #[o0, o1, o2, o3, o4, o5, o6, o7, o8, o9, o10, o11, o12, o13] #[true, true, true, true, true, true, true, true, true, true, false, false, false, false]).contains 10 = true)
    (q7_ : Region.ready .any #[o0, o1, o2, o3, o4, o5, o6, o7, o8, o9, o10, o11, o12, o13] #[true, true, true, true, true, true, true, true, true, true, true, false, false, false] = [11])
    (q11_ : Region.ready .any #[o0, o1, o2, o3, o4, o5, o6, o7, o8, o9, o10, o11, o12, o13] #[true, true, true, true, true, true, true, false, false, false, false, true, false, false] = [7])
    (f11_7_8 : Region.free .any #[o0, o1, o2, o3, o4, o5, o6, o7, o8, o9, o10, o11, o12, o13] #[true, true, true, true, true, true, true, true, false, false, false, true, false, false] 8 = true) (r11_7_8 : (Region.ready .any #[o0, o1, o2, o3, o4, o5, o6, o7, o8, o9, o10, o11, o12, o13] #[true, true, true, true, true, true, true, true, false, false, false, true, false, false]).contains 8 = true)
    (f11_7_9 : Region.free .any #[o0, o1, o2, o3, o4, o5, o6, o7, o8, o9, o10, o11, o12, o13] #[true, true, true, true, true, true, true, true, true, false, false, true, false, false] 9 = true) (r11_7_9 : (Region.ready .any #[o0, o1, o2, o3, o4, o5, o6, o7, o8, o9, o10, o11, o12, o13] #[true, true, true, true, true, true, true, true, true, false, false, true, false, false]).contains 9 = true)
    (f11_7_10 : Region.free .any #[o0, o1, o2, o3, o4, o5, o6, o7, o8, o9, o10, o11, o12, o13] #[true, true, true, true, true, true, true, true, true, true, false, true, false, false] 10 = true) (r11_7_10 : (Region.ready .any #[o0, o1, o2, o3, o4, o5, o6, o7, o8, o9, o10, o11, o12, o13] #[true, true, true, true, true, true, true, true, true, true, false, true, false, false]).contains 10 = true)
    (q7_11_ : Region.ready .any #[o0, o1, o2, o3, o4, o5, o6, o7, o8, o9, o10, o11, o12, o13] #[true, true, true, true, true, true, true, true, true, true, true, true, false, false] = [12])
    (f7_11_12_13 : Region.free .any #[o0, o1, o2, o3, o4, o5, o6, o7, o8, o9, o10, o11, o12, o13] #[true, true, true, true, true, true, true, true, true, true, true, true, true, false] 13 = true) (r7_11_12_13 : (Region.ready .any #[o0, o1, o2, o3, o4, o5, o6, o7, o8, o9, o10, o11, o12, o13] #[true, true, true, true, true, true, true, true, true, true, true, true, true, false]).contains 13 = true)
    (q7_11_12_ : Region.ready .any #[o0, o1, o2, o3, o4, o5, o6, o7, o8, o9, o10, o11, o12, o13] #[true, true, true, true, true, true, true, true, true, true, true, true, true, true] = [])
    (g7 : o7.guard = none)    (g11 : o11.guard = none)    (g12 : o12.guard = none)
    (ne11_7 : ∀ d, o11.dst = some d → o7.dst ≠ some d)
    (ne11_8 : ∀ d, o11.dst = some d → o8.dst ≠ some d)
    (ne11_9 : ∀ d, o11.dst = some d → o9.dst ≠ some d)
    (ne11_10 : ∀ d, o11.dst = some d → o10.dst ≠ some d)
    (v0 v1 v2 v3 v4 v5 v6 : Value) (A0 A1 A2 A3 A4 A5 A6 : Act)
    (S : World → Prop)
    (I_ : World → Prop)
    (I7_ : Value → World → Prop)
    (I11_ : Value → World → Prop)
    (I7_11_ : Value → Value → World → Prop)
    (I7_11_12_ : Value → Value → Value → World → Prop)
    (v8 : Value → Value)
    (v9 : Value → Value)
    (v10 : Value → Value)
    (v13 : Value → Value)
    (p0 : a.put o0.dst v0 = A0) (hy0 : YieldsIf P #[o0, o1, o2, o3, o4, o5, o6, o7, o8, o9, o10, o11, o12, o13] S o0 v0 a)
    (p1 : A0.put o1.dst v1 = A1) (hy1 : YieldsIf P #[o0, o1, o2, o3, o4, o5, o6, o7, o8, o9, o10, o11, o12, o13] S o1 v1 A0)
    (p2 : A1.put o2.dst v2 = A2) (hy2 : YieldsIf P #[o0, o1, o2, o3, o4, o5, o6, o7, o8, o9, o10, o11, o12, o13] S o2 v2 A1)
    (p3 : A2.put o3.dst v3 = A3) (hy3 : YieldsIf P #[o0, o1, o2, o3, o4, o5, o6, o7, o8, o9, o10, o11, o12, o13] S o3 v3 A2)
    (p4 : A3.put o4.dst v4 = A4) (hy4 : YieldsIf P #[o0, o1, o2, o3, o4, o5, o6, o7, o8, o9, o10, o11, o12, o13] S o4 v4 A3)
    (p5 : A4.put o5.dst v5 = A5) (hy5 : YieldsIf P #[o0, o1, o2, o3, o4, o5, o6, o7, o8, o9, o10, o11, o12, o13] S o5 v5 A4)
    (p6 : A5.put o6.dst v6 = A6) (hy6 : YieldsIf P #[o0, o1, o2, o3, o4, o5, o6, o7, o8, o9, o10, o11, o12, o13] S o6 v6 A5)
    (i0 : I_ w.drew)
    (hIS : (∀ w', I_  w' → S w') ∧ (∀ (u7 : Value) w', I7_ u7 w' → S w') ∧ (∀ (u11 : Value) w', I11_ u11 w' → S w') ∧ (∀ (u7 u11 : Value) w', I7_11_ u7 u11 w' → S w') ∧ (∀ (u7 u11 u12 : Value) w', I7_11_12_ u7 u11 u12 w' → S w'))
    (s_7 : ∀ w', I_  w' → ∀ K : Act → World → Prop, (∀ (u7 : Value) w2, I7_ u7 w2 → K (A6.put o7.dst u7) w2) → o7.wp P A6 w' K (NoPanic Q))
    (s_11 : ∀ w', I_  w' → ∀ K : Act → World → Prop, (∀ (u11 : Value) w2, I11_ u11 w2 → K (A6.put o11.dst u11) w2) → o11.wp P A6 w' K (NoPanic Q))
    (s7_11 : ∀ (u7 : Value) w', I7_ u7 w' → ∀ K : Act → World → Prop, (∀ (u11 : Value) w2, I7_11_ u7 u11 w2 → K (((((A6.put o7.dst u7).put o8.dst (v8 u7)).put o9.dst (v9 u7)).put o10.dst (v10 u7)).put o11.dst u11) w2) → o11.wp P ((((A6.put o7.dst u7).put o8.dst (v8 u7)).put o9.dst (v9 u7)).put o10.dst (v10 u7)) w' K (NoPanic Q))
    (s11_7 : ∀ (u11 : Value) w', I11_ u11 w' → ∀ K : Act → World → Prop, (∀ (u7 : Value) w2, I7_11_ u7 u11 w2 → K ((A6.put o11.dst u11).put o7.dst u7) w2) → o7.wp P (A6.put o11.dst u11) w' K (NoPanic Q))
    (s7_11_12 : ∀ (u7 u11 : Value) w', I7_11_ u7 u11 w' → ∀ K : Act → World → Prop, (∀ (u12 : Value) w2, I7_11_12_ u7 u11 u12 w2 → K ((((((A6.put o7.dst u7).put o8.dst (v8 u7)).put o9.dst (v9 u7)).put o10.dst (v10 u7)).put o11.dst u11).put o12.dst u12) w2) → o12.wp P (((((A6.put o7.dst u7).put o8.dst (v8 u7)).put o9.dst (v9 u7)).put o10.dst (v10 u7)).put o11.dst u11) w' K (NoPanic Q))
    (y_7_8 : ∀ (u7 : Value) w', I7_ u7 w' → YieldsIf P #[o0, o1, o2, o3, o4, o5, o6, o7, o8, o9, o10, o11, o12, o13] S o8 (v8 u7) (A6.put o7.dst u7))
    (y_7_9 : ∀ (u7 : Value) w', I7_ u7 w' → YieldsIf P #[o0, o1, o2, o3, o4, o5, o6, o7, o8, o9, o10, o11, o12, o13] S o9 (v9 u7) ((A6.put o7.dst u7).put o8.dst (v8 u7)))
    (y_7_10 : ∀ (u7 : Value) w', I7_ u7 w' → YieldsIf P #[o0, o1, o2, o3, o4, o5, o6, o7, o8, o9, o10, o11, o12, o13] S o10 (v10 u7) (((A6.put o7.dst u7).put o8.dst (v8 u7)).put o9.dst (v9 u7)))
    (y11_7_8 : ∀ (u7 u11 : Value) w', I7_11_ u7 u11 w' → YieldsIf P #[o0, o1, o2, o3, o4, o5, o6, o7, o8, o9, o10, o11, o12, o13] S o8 (v8 u7) ((A6.put o7.dst u7).put o11.dst u11))
    (y11_7_9 : ∀ (u7 u11 : Value) w', I7_11_ u7 u11 w' → YieldsIf P #[o0, o1, o2, o3, o4, o5, o6, o7, o8, o9, o10, o11, o12, o13] S o9 (v9 u7) (((A6.put o7.dst u7).put o8.dst (v8 u7)).put o11.dst u11))
    (y11_7_10 : ∀ (u7 u11 : Value) w', I7_11_ u7 u11 w' → YieldsIf P #[o0, o1, o2, o3, o4, o5, o6, o7, o8, o9, o10, o11, o12, o13] S o10 (v10 u7) ((((A6.put o7.dst u7).put o8.dst (v8 u7)).put o9.dst (v9 u7)).put o11.dst u11))
    (y7_11_12_13 : ∀ (u7 u11 u12 : Value) w', I7_11_12_ u7 u11 u12 w' → YieldsIf P #[o0, o1, o2, o3, o4, o5, o6, o7, o8, o9, o10, o11, o12, o13] S o13 (v13 u12) ((((((A6.put o7.dst u7).put o8.dst (v8 u7)).put o9.dst (v9 u7)).put o10.dst (v10 u7)).put o11.dst u11).put o12.dst u12))
    (h : ∀ (u7 u11 u12 : Value) w', I7_11_12_ u7 u11 u12 w' → Q .normal (((((((A6.put o7.dst u7).put o8.dst (v8 u7)).put o9.dst (v9 u7)).put o10.dst (v10 u7)).put o11.dst u11).put o12.dst u12).put o13.dst (v13 u12)) w') :
    (Code.region id #[o0, o1, o2, o3, o4, o5, o6, o7, o8, o9, o10, o11, o12, o13] true).wp P Q a w := by
  subst p0 p1 p2 p3 p4 p5 p6
  obtain ⟨z_, z7_, z11_, z7_11_, z7_11_12_⟩ := hIS
  refine wp_region_noPanic ?_
  refine wp_region_held_drew (S := S) hm (z_ _ i0) (fun hH => ?_)
  show wpAnyH P .any #[o0, o1, o2, o3, o4, o5, o6, o7, o8, o9, o10, o11, o12, o13] (NoPanic Q) S 14 #[false, false, false, false, false, false, false, false, false, false, false, false, false, false] a w.drew
  refine wpAnyH_take (i := 0) (oi := o0) rfl hs f0 r0 (fun _ _ _ h => h) hy0 hH ?_
  refine wpAnyH_take (i := 1) (oi := o1) rfl hs f1 r1 (fun _ _ _ h => h) hy1 hH ?_
  refine wpAnyH_take (i := 2) (oi := o2) rfl hs f2 r2 (fun _ _ _ h => h) hy2 hH ?_
  refine wpAnyH_take (i := 3) (oi := o3) rfl hs f3 r3 (fun _ _ _ h => h) hy3 hH ?_
  refine wpAnyH_take (i := 4) (oi := o4) rfl hs f4 r4 (fun _ _ _ h => h) hy4 hH ?_
  refine wpAnyH_take (i := 5) (oi := o5) rfl hs f5 r5 (fun _ _ _ h => h) hy5 hH ?_
  refine wpAnyH_take (i := 6) (oi := o6) rfl hs f6 r6 (fun _ _ _ h => h) hy6 hH ?_
  generalize (((((((a.put o0.dst v0).put o1.dst v1).put o2.dst v2).put o3.dst v3).put o4.dst v4).put o5.dst v5).put o6.dst v6) = B at *
  have wa7 : ∀ y, Region.wanted o7 y = true := fun y => by unfold Region.wanted; rw [g7]
  have wa11 : ∀ y, Region.wanted o11 y = true := fun y => by unfold Region.wanted; rw [g11]
  have wa12 : ∀ y, Region.wanted o12 y = true := fun y => by unfold Region.wanted; rw [g12]
  have t7_11_12_ : ∀ (u7 u11 u12 : Value) w', I7_11_12_ u7 u11 u12 w' → wpAnyH P .any #[o0, o1, o2, o3, o4, o5, o6, o7, o8, o9, o10, o11, o12, o13] (NoPanic Q) S 0 #[true, true, true, true, true, true, true, true, true, true, true, true, true, true] (((((((B.put o7.dst u7).put o8.dst (v8 u7)).put o9.dst (v9 u7)).put o10.dst (v10 u7)).put o11.dst u11).put o12.dst u12).put o13.dst (v13 u12)) w' := by
    intro u7 u11 u12 w0 i0
    exact ⟨q7_11_12_, NoPanic.normal (h u7 u11 u12 w0 i0)⟩
  have t7_11_ : ∀ (u7 u11 : Value) w', I7_11_ u7 u11 w' → wpAnyH P .any #[o0, o1, o2, o3, o4, o5, o6, o7, o8, o9, o10, o11, o12, o13] (NoPanic Q) S 2 #[true, true, true, true, true, true, true, true, true, true, true, true, false, false] (((((B.put o7.dst u7).put o8.dst (v8 u7)).put o9.dst (v9 u7)).put o10.dst (v10 u7)).put o11.dst u11) w' := by
    intro u7 u11 w0 i0
    refine wpAnyH_ready (rs := [12]) q7_11_ (by simp) (AllReadyH.cons (o := o12) rfl (fun K hK => ?_) AllReadyH.nil)
    · rw [if_pos (wa12 _)]
      refine s7_11_12 u7 u11 w0 i0 K (fun u12 w1 i1 => hK.out _ _ (z7_11_12_ u7 u11 u12 w1 i1) (fun _ => ?_))
      clear hK
      refine wpAnyH_take (i := 13) (oi := o13) rfl hs f7_11_12_13 r7_11_12_13 (fun _ _ _ h => h) (y7_11_12_13 u7 u11 u12 w1 i1) (z7_11_12_ u7 u11 u12 w1 i1) ?_
      exact t7_11_12_ u7 u11 u12 w1 i1
  have t11_ : ∀ (u11 : Value) w', I11_ u11 w' → wpAnyH P .any #[o0, o1, o2, o3, o4, o5, o6, o7, o8, o9, o10, o11, o12, o13] (NoPanic Q) S 6 #[true, true, true, true, true, true, true, false, false, false, false, true, false, false] (B.put o11.dst u11) w' := by
    intro u11 w0 i0
    refine wpAnyH_ready (rs := [7]) q11_ (by simp) (AllReadyH.cons (o := o7) rfl (fun K hK => ?_) AllReadyH.nil)
    · rw [if_pos (wa7 _)]
      refine s11_7 u11 w0 i0 K (fun u7 w1 i1 => hK.out _ _ (z7_11_ u7 u11 w1 i1) (fun _ => ?_))
      clear hK
      rw [Act.put_comm _ _ _ ne11_7]
      refine wpAnyH_take (i := 8) (oi := o8) rfl hs f11_7_8 r11_7_8 (fun _ _ _ h => h) (y11_7_8 u7 u11 w1 i1) (z7_11_ u7 u11 w1 i1) ?_
      rw [Act.put_comm _ _ _ ne11_8]
      refine wpAnyH_take (i := 9) (oi := o9) rfl hs f11_7_9 r11_7_9 (fun _ _ _ h => h) (y11_7_9 u7 u11 w1 i1) (z7_11_ u7 u11 w1 i1) ?_
      rw [Act.put_comm _ _ _ ne11_9]
      refine wpAnyH_take (i := 10) (oi := o10) rfl hs f11_7_10 r11_7_10 (fun _ _ _ h => h) (y11_7_10 u7 u11 w1 i1) (z7_11_ u7 u11 w1 i1) ?_
      rw [Act.put_comm _ _ _ ne11_10]
      exact t7_11_ u7 u11 w1 i1
  have t7_ : ∀ (u7 : Value) w', I7_ u7 w' → wpAnyH P .any #[o0, o1, o2, o3, o4, o5, o6, o7, o8, o9, o10, o11, o12, o13] (NoPanic Q) S 3 #[true, true, true, true, true, true, true, true, true, true, true, false, false, false] ((((B.put o7.dst u7).put o8.dst (v8 u7)).put o9.dst (v9 u7)).put o10.dst (v10 u7)) w' := by
    intro u7 w0 i0
    refine wpAnyH_ready (rs := [11]) q7_ (by simp) (AllReadyH.cons (o := o11) rfl (fun K hK => ?_) AllReadyH.nil)
    · rw [if_pos (wa11 _)]
      refine s7_11 u7 w0 i0 K (fun u11 w1 i1 => hK.out _ _ (z7_11_ u7 u11 w1 i1) (fun _ => ?_))
      clear hK
      exact t7_11_ u7 u11 w1 i1
  have t_ : ∀ w', I_  w' → wpAnyH P .any #[o0, o1, o2, o3, o4, o5, o6, o7, o8, o9, o10, o11, o12, o13] (NoPanic Q) S 7 #[true, true, true, true, true, true, true, false, false, false, false, false, false, false] B w' := by
    intro w0 i0
    refine wpAnyH_ready (rs := [7, 11]) q_ (by simp) (AllReadyH.cons (o := o7) rfl (fun K hK => ?_) (AllReadyH.cons (o := o11) rfl (fun K hK => ?_) AllReadyH.nil))
    · rw [if_pos (wa7 _)]
      refine s_7  w0 i0 K (fun u7 w1 i1 => hK.out _ _ (z7_ u7 w1 i1) (fun _ => ?_))
      clear hK
      refine wpAnyH_take (i := 8) (oi := o8) rfl hs f_7_8 r_7_8 (fun _ _ _ h => h) (y_7_8 u7 w1 i1) (z7_ u7 w1 i1) ?_
      refine wpAnyH_take (i := 9) (oi := o9) rfl hs f_7_9 r_7_9 (fun _ _ _ h => h) (y_7_9 u7 w1 i1) (z7_ u7 w1 i1) ?_
      refine wpAnyH_take (i := 10) (oi := o10) rfl hs f_7_10 r_7_10 (fun _ _ _ h => h) (y_7_10 u7 w1 i1) (z7_ u7 w1 i1) ?_
      exact t7_ u7 w1 i1
    · rw [if_pos (wa11 _)]
      refine s_11  w0 i0 K (fun u11 w1 i1 => hK.out _ _ (z11_ u11 w1 i1) (fun _ => ?_))
      clear hK
      exact t11_ u11 w1 i1
  exact t_ w.drew i0

end
end Go.Proofs.YtcijeplafknokaaDoor
/-
  Laws for drawn regions, by genreg.py. No program.
-/
namespace Go.Proofs.YtcijeplafknokaaDoor
open Go Go.RowKit Go.BigFrame
set_option linter.unusedVariables false
set_option linter.unusedSimpArgs false
section
variable {P : Program} {Q : Exit → Act → World → Prop}
theorem wp_ra15 {id : Nat} {o0 o1 o2 o3 o4 o5 o6 o7 o8 o9 o10 o11 o12 o13 o14 : Oper} {a : Act} {w : World} (hm : P.follows .mixedOrders = true) (hs : Region.noSelect #[o0, o1, o2, o3, o4, o5, o6, o7, o8, o9, o10, o11, o12, o13, o14] = true)
    (f0 : Region.free .any #[o0, o1, o2, o3, o4, o5, o6, o7, o8, o9, o10, o11, o12, o13, o14] #[false, false, false, false, false, false, false, false, false, false, false, false, false, false, false] 0 = true) (r0 : (Region.ready .any #[o0, o1, o2, o3, o4, o5, o6, o7, o8, o9, o10, o11, o12, o13, o14] #[false, false, false, false, false, false, false, false, false, false, false, false, false, false, false]).contains 0 = true)
    (f1 : Region.free .any #[o0, o1, o2, o3, o4, o5, o6, o7, o8, o9, o10, o11, o12, o13, o14] #[true, false, false, false, false, false, false, false, false, false, false, false, false, false, false] 1 = true) (r1 : (Region.ready .any #[o0, o1, o2, o3, o4, o5, o6, o7, o8, o9, o10, o11, o12, o13, o14] #[true, false, false, false, false, false, false, false, false, false, false, false, false, false, false]).contains 1 = true)
    (f2 : Region.free .any #[o0, o1, o2, o3, o4, o5, o6, o7, o8, o9, o10, o11, o12, o13, o14] #[true, true, false, false, false, false, false, false, false, false, false, false, false, false, false] 2 = true) (r2 : (Region.ready .any #[o0, o1, o2, o3, o4, o5, o6, o7, o8, o9, o10, o11, o12, o13, o14] #[true, true, false, false, false, false, false, false, false, false, false, false, false, false, false]).contains 2 = true)
    (f3 : Region.free .any #[o0, o1, o2, o3, o4, o5, o6, o7, o8, o9, o10, o11, o12, o13, o14] #[true, true, true, false, false, false, false, false, false, false, false, false, false, false, false] 3 = true) (r3 : (Region.ready .any #[o0, o1, o2, o3, o4, o5, o6, o7, o8, o9, o10, o11, o12, o13, o14] #[true, true, true, false, false, false, false, false, false, false, false, false, false, false, false]).contains 3 = true)
    (f4 : Region.free .any #[o0, o1, o2, o3, o4, o5, o6, o7, o8, o9, o10, o11, o12, o13, o14] #[true, true, true, true, false, false, false, false, false, false, false, false, false, false, false] 4 = true) (r4 : (Region.ready .any #[o0, o1, o2, o3, o4, o5, o6, o7, o8, o9, o10, o11, o12, o13, o14] #[true, true, true, true, false, false, false, false, false, false, false, false, false, false, false]).contains 4 = true)
    (f5 : Region.free .any #[o0, o1, o2, o3, o4, o5, o6, o7, o8, o9, o10, o11, o12, o13, o14] #[true, true, true, true, true, false, false, false, false, false, false, false, false, false, false] 5 = true) (r5 : (Region.ready .any #[o0, o1, o2, o3, o4, o5, o6, o7, o8, o9, o10, o11, o12, o13, o14] #[true, true, true, true, true, false, false, false, false, false, false, false, false, false, false]).contains 5 = true)
    (f6 : Region.free .any #[o0, o1, o2, o3, o4, o5, o6, o7, o8, o9, o10, o11, o12, o13, o14] #[true, true, true, true, true, true, false, false, false, false, false, false, false, false, false] 6 = true) (r6 : (Region.ready .any #[o0, o1, o2, o3, o4, o5, o6, o7, o8, o9, o10, o11, o12, o13, o14] #[true, true, true, true, true, true, false, false, false, false, false, false, false, false, false]).contains 6 = true)
    (f7 : Region.free .any #[o0, o1, o2, o3, o4, o5, o6, o7, o8, o9, o10, o11, o12, o13, o14] #[true, true, true, true, true, true, true, false, false, false, false, false, false, false, false] 7 = true) (r7 : (Region.ready .any #[o0, o1, o2, o3, o4, o5, o6, o7, o8, o9, o10, o11, o12, o13, o14] #[true, true, true, true, true, true, true, false, false, false, false, false, false, false, false]).contains 7 = true)
    (q_ : Region.ready .any #[o0, o1, o2, o3, o4, o5, o6, o7, o8, o9, o10, o11, o12, o13, o14] #[true, true, true, true, true, true, true, true, false, false, false, false, false, false, false] = [8, 12])
    (f_8_9 : Region.free .any #[o0, o1, o2, o3, o4, o5, o6, o7, o8, o9, o10, o11, o12, o13, o14] #[true, true, true, true, true, true, true, true, true, false, false, false, false, false, false] 9 = true) (r_8_9 : (Region.ready .any #[o0, o1, o2, o3, o4, o5, o6, o7, o8, o9, o10, o11, o12, o13, o14] #[true, true, true, true, true, true, true, true, true, false, false, false, false, false, false]).contains 9 = true)
    (f_8_10 : Region.free .any #[o0, o1, o2, o3, o4, o5, o6, o7, o8, o9, o10, o11, o12, o13, o14] #[true, true, true, true, true, true, true, true, true, true, false, false, false, false, false] 10 = true) (r_8_10 : (Region.ready .any #[o0, o1, o2, o3, o4, o5, o6, o7, o8, o9, o10, o11, o12, o13, o14] #[true, true, true, true, true, true, true, true, true, true, false, false, false, false, false]).contains 10 = true)
    (f_8_11 : Region.free .any #[o0, o1, o2, o3, o4, o5, o6, o7, o8, o9, o10, o11, o12, o13, o14] #[true, true, true, true, true, true, true, true, true, true, true, false, false, false, false] 11 = true) (r_8_11 : (Region.ready .any #[o0, o1, o2, o3, o4, o5, o6, o7, o8, o9, o10, o11, o12, o13, o14] #[true, true, true, true, true, true, true, true, true, true, true, false, false, false, false]).contains 11 = true)
    (q8_ : Region.ready .any #[o0, o1, o2, o3, o4, o5, o6, o7, o8, o9, o10, o11, o12, o13, o14] #[true, true, true, true, true, true, true, true, true, true, true, true, false, false, false] = [12])
    (q12_ : Region.ready .any #[o0, o1, o2, o3, o4, o5, o6, o7, o8, o9, o10, o11, o12, o13, o14] #[true, true, true, true, true, true, true, true, false, false, false, false, true, false, false] = [8])
    (f12_8_9 : Region.free .any #[o0, o1, o2, o3, o4, o5, o6, o7, o8, o9, o10, o11, o12, o13, o14] #[true, true, true, true, true, true, true, true, true, false, false, false, true, false, false] 9 = true) (r12_8_9 : (Region.ready .any #[o0, o1, o2, o3, o4, o5, o6, o7, o8, o9, o10, o11, o12, o13, o14] #[true, true, true, true, true, true, true, true, true, false, false, false, true, false, false]).contains 9 = true)
    (f12_8_10 : Region.free .any #[o0, o1, o2, o3, o4, o5, o6, o7, o8, o9, o10, o11, o12, o13, o14] #[true, true, true, true, true, true, true, true, true, true, false, false, true, false, false] 10 = true) (r12_8_10 : (Region.ready .any #[o0, o1, o2, o3, o4, o5, o6, o7, o8, o9, o10, o11, o12, o13, o14] #[true, true, true, true, true, true, true, true, true, true, false, false, true, false, false]).contains 10 = true)
    (f12_8_11 : Region.free .any #[o0, o1, o2, o3, o4, o5, o6, o7, o8, o9, o10, o11, o12, o13, o14] #[true, true, true, true, true, true, true, true, true, true, true, false, true, false, false] 11 = true) (r12_8_11 : (Region.ready .any #[o0, o1, o2, o3, o4, o5, o6, o7, o8, o9, o10, o11, o12, o13, o14] #[true, true, true, true, true, true, true, true, true, true, true, false, true, false, false]).contains 11 = true)
    (q8_12_ : Region.ready .any #[o0, o1, o2, o3, o4, o5, o6, o7, o8, o9, o10, o11, o12, o13, o14] #[true, true, true, true, true, true, true, true, true, true, true, true, true, false, false] = [13])
    (f8_12_13_14 : Region.free .any #[o0, o1, o2, o3, o4, o5, o6, o7, o8, o9, o10, o11, o12, o13, o14] #[true, true, true, true, true, true, true, true, true, true, true, true, true, true, false] 14 = true) (r8_12_13_14 : (Region.ready .any #[o0, o1, o2, o3, o4, o5, o6, o7, o8, o9, o10, o11, o12, o13, o14] #[true, true, true, true, true, true, true, true, true, true, true, true, true, true, false]).contains 14 = true)
    (q8_12_13_ : Region.ready .any #[o0, o1, o2, o3, o4, o5, o6, o7, o8, o9, o10, o11, o12, o13, o14] #[true, true, true, true, true, true, true, true, true, true, true, true, true, true, true] = [])
    (g8 : o8.guard = none)    (g12 : o12.guard = none)    (g13 : o13.guard = none)
    (ne12_8 : ∀ d, o12.dst = some d → o8.dst ≠ some d)
    (ne12_9 : ∀ d, o12.dst = some d → o9.dst ≠ some d)
    (ne12_10 : ∀ d, o12.dst = some d → o10.dst ≠ some d)
    (ne12_11 : ∀ d, o12.dst = some d → o11.dst ≠ some d)
    (v0 v1 v2 v3 v4 v5 v6 v7 : Value) (A0 A1 A2 A3 A4 A5 A6 A7 : Act)
    (S : World → Prop)
    (I_ : World → Prop)
    (I8_ : Value → World → Prop)
    (I12_ : Value → World → Prop)
    (I8_12_ : Value → Value → World → Prop)
    (I8_12_13_ : Value → Value → Value → World → Prop)
    (v9 : Value → Value)
    (v10 : Value → Value)
    (v11 : Value → Value)
    (v14 : Value → Value)
    (p0 : a.put o0.dst v0 = A0) (hy0 : YieldsIf P #[o0, o1, o2, o3, o4, o5, o6, o7, o8, o9, o10, o11, o12, o13, o14] S o0 v0 a)
    (p1 : A0.put o1.dst v1 = A1) (hy1 : YieldsIf P #[o0, o1, o2, o3, o4, o5, o6, o7, o8, o9, o10, o11, o12, o13, o14] S o1 v1 A0)
    (p2 : A1.put o2.dst v2 = A2) (hy2 : YieldsIf P #[o0, o1, o2, o3, o4, o5, o6, o7, o8, o9, o10, o11, o12, o13, o14] S o2 v2 A1)
    (p3 : A2.put o3.dst v3 = A3) (hy3 : YieldsIf P #[o0, o1, o2, o3, o4, o5, o6, o7, o8, o9, o10, o11, o12, o13, o14] S o3 v3 A2)
    (p4 : A3.put o4.dst v4 = A4) (hy4 : YieldsIf P #[o0, o1, o2, o3, o4, o5, o6, o7, o8, o9, o10, o11, o12, o13, o14] S o4 v4 A3)
    (p5 : A4.put o5.dst v5 = A5) (hy5 : YieldsIf P #[o0, o1, o2, o3, o4, o5, o6, o7, o8, o9, o10, o11, o12, o13, o14] S o5 v5 A4)
    (p6 : A5.put o6.dst v6 = A6) (hy6 : YieldsIf P #[o0, o1, o2, o3, o4, o5, o6, o7, o8, o9, o10, o11, o12, o13, o14] S o6 v6 A5)
    (p7 : A6.put o7.dst v7 = A7) (hy7 : YieldsIf P #[o0, o1, o2, o3, o4, o5, o6, o7, o8, o9, o10, o11, o12, o13, o14] S o7 v7 A6)
    (i0 : I_ w.drew)
    (hIS : (∀ w', I_  w' → S w') ∧ (∀ (u8 : Value) w', I8_ u8 w' → S w') ∧ (∀ (u12 : Value) w', I12_ u12 w' → S w') ∧ (∀ (u8 u12 : Value) w', I8_12_ u8 u12 w' → S w') ∧ (∀ (u8 u12 u13 : Value) w', I8_12_13_ u8 u12 u13 w' → S w'))
    (s_8 : ∀ w', I_  w' → ∀ K : Act → World → Prop, (∀ (u8 : Value) w2, I8_ u8 w2 → K (A7.put o8.dst u8) w2) → o8.wp P A7 w' K (NoPanic Q))
    (s_12 : ∀ w', I_  w' → ∀ K : Act → World → Prop, (∀ (u12 : Value) w2, I12_ u12 w2 → K (A7.put o12.dst u12) w2) → o12.wp P A7 w' K (NoPanic Q))
    (s8_12 : ∀ (u8 : Value) w', I8_ u8 w' → ∀ K : Act → World → Prop, (∀ (u12 : Value) w2, I8_12_ u8 u12 w2 → K (((((A7.put o8.dst u8).put o9.dst (v9 u8)).put o10.dst (v10 u8)).put o11.dst (v11 u8)).put o12.dst u12) w2) → o12.wp P ((((A7.put o8.dst u8).put o9.dst (v9 u8)).put o10.dst (v10 u8)).put o11.dst (v11 u8)) w' K (NoPanic Q))
    (s12_8 : ∀ (u12 : Value) w', I12_ u12 w' → ∀ K : Act → World → Prop, (∀ (u8 : Value) w2, I8_12_ u8 u12 w2 → K ((A7.put o12.dst u12).put o8.dst u8) w2) → o8.wp P (A7.put o12.dst u12) w' K (NoPanic Q))
    (s8_12_13 : ∀ (u8 u12 : Value) w', I8_12_ u8 u12 w' → ∀ K : Act → World → Prop, (∀ (u13 : Value) w2, I8_12_13_ u8 u12 u13 w2 → K ((((((A7.put o8.dst u8).put o9.dst (v9 u8)).put o10.dst (v10 u8)).put o11.dst (v11 u8)).put o12.dst u12).put o13.dst u13) w2) → o13.wp P (((((A7.put o8.dst u8).put o9.dst (v9 u8)).put o10.dst (v10 u8)).put o11.dst (v11 u8)).put o12.dst u12) w' K (NoPanic Q))
    (y_8_9 : ∀ (u8 : Value) w', I8_ u8 w' → YieldsIf P #[o0, o1, o2, o3, o4, o5, o6, o7, o8, o9, o10, o11, o12, o13, o14] S o9 (v9 u8) (A7.put o8.dst u8))
    (y_8_10 : ∀ (u8 : Value) w', I8_ u8 w' → YieldsIf P #[o0, o1, o2, o3, o4, o5, o6, o7, o8, o9, o10, o11, o12, o13, o14] S o10 (v10 u8) ((A7.put o8.dst u8).put o9.dst (v9 u8)))
    (y_8_11 : ∀ (u8 : Value) w', I8_ u8 w' → YieldsIf P #[o0, o1, o2, o3, o4, o5, o6, o7, o8, o9, o10, o11, o12, o13, o14] S o11 (v11 u8) (((A7.put o8.dst u8).put o9.dst (v9 u8)).put o10.dst (v10 u8)))
    (y12_8_9 : ∀ (u8 u12 : Value) w', I8_12_ u8 u12 w' → YieldsIf P #[o0, o1, o2, o3, o4, o5, o6, o7, o8, o9, o10, o11, o12, o13, o14] S o9 (v9 u8) ((A7.put o8.dst u8).put o12.dst u12))
    (y12_8_10 : ∀ (u8 u12 : Value) w', I8_12_ u8 u12 w' → YieldsIf P #[o0, o1, o2, o3, o4, o5, o6, o7, o8, o9, o10, o11, o12, o13, o14] S o10 (v10 u8) (((A7.put o8.dst u8).put o9.dst (v9 u8)).put o12.dst u12))
    (y12_8_11 : ∀ (u8 u12 : Value) w', I8_12_ u8 u12 w' → YieldsIf P #[o0, o1, o2, o3, o4, o5, o6, o7, o8, o9, o10, o11, o12, o13, o14] S o11 (v11 u8) ((((A7.put o8.dst u8).put o9.dst (v9 u8)).put o10.dst (v10 u8)).put o12.dst u12))
    (y8_12_13_14 : ∀ (u8 u12 u13 : Value) w', I8_12_13_ u8 u12 u13 w' → YieldsIf P #[o0, o1, o2, o3, o4, o5, o6, o7, o8, o9, o10, o11, o12, o13, o14] S o14 (v14 u13) ((((((A7.put o8.dst u8).put o9.dst (v9 u8)).put o10.dst (v10 u8)).put o11.dst (v11 u8)).put o12.dst u12).put o13.dst u13))
    (h : ∀ (u8 u12 u13 : Value) w', I8_12_13_ u8 u12 u13 w' → Q .normal (((((((A7.put o8.dst u8).put o9.dst (v9 u8)).put o10.dst (v10 u8)).put o11.dst (v11 u8)).put o12.dst u12).put o13.dst u13).put o14.dst (v14 u13)) w') :
    (Code.region id #[o0, o1, o2, o3, o4, o5, o6, o7, o8, o9, o10, o11, o12, o13, o14] true).wp P Q a w := by
  subst p0 p1 p2 p3 p4 p5 p6 p7
  obtain ⟨z_, z8_, z12_, z8_12_, z8_12_13_⟩ := hIS
  refine wp_region_noPanic ?_
  refine wp_region_held_drew (S := S) hm (z_ _ i0) (fun hH => ?_)
  show wpAnyH P .any #[o0, o1, o2, o3, o4, o5, o6, o7, o8, o9, o10, o11, o12, o13, o14] (NoPanic Q) S 15 #[false, false, false, false, false, false, false, false, false, false, false, false, false, false, false] a w.drew
  refine wpAnyH_take (i := 0) (oi := o0) rfl hs f0 r0 (fun _ _ _ h => h) hy0 hH ?_
  refine wpAnyH_take (i := 1) (oi := o1) rfl hs f1 r1 (fun _ _ _ h => h) hy1 hH ?_
  refine wpAnyH_take (i := 2) (oi := o2) rfl hs f2 r2 (fun _ _ _ h => h) hy2 hH ?_
  refine wpAnyH_take (i := 3) (oi := o3) rfl hs f3 r3 (fun _ _ _ h => h) hy3 hH ?_
  refine wpAnyH_take (i := 4) (oi := o4) rfl hs f4 r4 (fun _ _ _ h => h) hy4 hH ?_
  refine wpAnyH_take (i := 5) (oi := o5) rfl hs f5 r5 (fun _ _ _ h => h) hy5 hH ?_
  refine wpAnyH_take (i := 6) (oi := o6) rfl hs f6 r6 (fun _ _ _ h => h) hy6 hH ?_
  refine wpAnyH_take (i := 7) (oi := o7) rfl hs f7 r7 (fun _ _ _ h => h) hy7 hH ?_
  generalize ((((((((a.put o0.dst v0).put o1.dst v1).put o2.dst v2).put o3.dst v3).put o4.dst v4).put o5.dst v5).put o6.dst v6).put o7.dst v7) = B at *
  have wa8 : ∀ y, Region.wanted o8 y = true := fun y => by unfold Region.wanted; rw [g8]
  have wa12 : ∀ y, Region.wanted o12 y = true := fun y => by unfold Region.wanted; rw [g12]
  have wa13 : ∀ y, Region.wanted o13 y = true := fun y => by unfold Region.wanted; rw [g13]
  have t8_12_13_ : ∀ (u8 u12 u13 : Value) w', I8_12_13_ u8 u12 u13 w' → wpAnyH P .any #[o0, o1, o2, o3, o4, o5, o6, o7, o8, o9, o10, o11, o12, o13, o14] (NoPanic Q) S 0 #[true, true, true, true, true, true, true, true, true, true, true, true, true, true, true] (((((((B.put o8.dst u8).put o9.dst (v9 u8)).put o10.dst (v10 u8)).put o11.dst (v11 u8)).put o12.dst u12).put o13.dst u13).put o14.dst (v14 u13)) w' := by
    intro u8 u12 u13 w0 i0
    exact ⟨q8_12_13_, NoPanic.normal (h u8 u12 u13 w0 i0)⟩
  have t8_12_ : ∀ (u8 u12 : Value) w', I8_12_ u8 u12 w' → wpAnyH P .any #[o0, o1, o2, o3, o4, o5, o6, o7, o8, o9, o10, o11, o12, o13, o14] (NoPanic Q) S 2 #[true, true, true, true, true, true, true, true, true, true, true, true, true, false, false] (((((B.put o8.dst u8).put o9.dst (v9 u8)).put o10.dst (v10 u8)).put o11.dst (v11 u8)).put o12.dst u12) w' := by
    intro u8 u12 w0 i0
    refine wpAnyH_ready (rs := [13]) q8_12_ (by simp) (AllReadyH.cons (o := o13) rfl (fun K hK => ?_) AllReadyH.nil)
    · rw [if_pos (wa13 _)]
      refine s8_12_13 u8 u12 w0 i0 K (fun u13 w1 i1 => hK.out _ _ (z8_12_13_ u8 u12 u13 w1 i1) (fun _ => ?_))
      clear hK
      refine wpAnyH_take (i := 14) (oi := o14) rfl hs f8_12_13_14 r8_12_13_14 (fun _ _ _ h => h) (y8_12_13_14 u8 u12 u13 w1 i1) (z8_12_13_ u8 u12 u13 w1 i1) ?_
      exact t8_12_13_ u8 u12 u13 w1 i1
  have t12_ : ∀ (u12 : Value) w', I12_ u12 w' → wpAnyH P .any #[o0, o1, o2, o3, o4, o5, o6, o7, o8, o9, o10, o11, o12, o13, o14] (NoPanic Q) S 6 #[true, true, true, true, true, true, true, true, false, false, false, false, true, false, false] (B.put o12.dst u12) w' := by
    intro u12 w0 i0
    refine wpAnyH_ready (rs := [8]) q12_ (by simp) (AllReadyH.cons (o := o8) rfl (fun K hK => ?_) AllReadyH.nil)
    · rw [if_pos (wa8 _)]
      refine s12_8 u12 w0 i0 K (fun u8 w1 i1 => hK.out _ _ (z8_12_ u8 u12 w1 i1) (fun _ => ?_))
      clear hK
      rw [Act.put_comm _ _ _ ne12_8]
      refine wpAnyH_take (i := 9) (oi := o9) rfl hs f12_8_9 r12_8_9 (fun _ _ _ h => h) (y12_8_9 u8 u12 w1 i1) (z8_12_ u8 u12 w1 i1) ?_
      rw [Act.put_comm _ _ _ ne12_9]
      refine wpAnyH_take (i := 10) (oi := o10) rfl hs f12_8_10 r12_8_10 (fun _ _ _ h => h) (y12_8_10 u8 u12 w1 i1) (z8_12_ u8 u12 w1 i1) ?_
      rw [Act.put_comm _ _ _ ne12_10]
      refine wpAnyH_take (i := 11) (oi := o11) rfl hs f12_8_11 r12_8_11 (fun _ _ _ h => h) (y12_8_11 u8 u12 w1 i1) (z8_12_ u8 u12 w1 i1) ?_
      rw [Act.put_comm _ _ _ ne12_11]
      exact t8_12_ u8 u12 w1 i1
  have t8_ : ∀ (u8 : Value) w', I8_ u8 w' → wpAnyH P .any #[o0, o1, o2, o3, o4, o5, o6, o7, o8, o9, o10, o11, o12, o13, o14] (NoPanic Q) S 3 #[true, true, true, true, true, true, true, true, true, true, true, true, false, false, false] ((((B.put o8.dst u8).put o9.dst (v9 u8)).put o10.dst (v10 u8)).put o11.dst (v11 u8)) w' := by
    intro u8 w0 i0
    refine wpAnyH_ready (rs := [12]) q8_ (by simp) (AllReadyH.cons (o := o12) rfl (fun K hK => ?_) AllReadyH.nil)
    · rw [if_pos (wa12 _)]
      refine s8_12 u8 w0 i0 K (fun u12 w1 i1 => hK.out _ _ (z8_12_ u8 u12 w1 i1) (fun _ => ?_))
      clear hK
      exact t8_12_ u8 u12 w1 i1
  have t_ : ∀ w', I_  w' → wpAnyH P .any #[o0, o1, o2, o3, o4, o5, o6, o7, o8, o9, o10, o11, o12, o13, o14] (NoPanic Q) S 7 #[true, true, true, true, true, true, true, true, false, false, false, false, false, false, false] B w' := by
    intro w0 i0
    refine wpAnyH_ready (rs := [8, 12]) q_ (by simp) (AllReadyH.cons (o := o8) rfl (fun K hK => ?_) (AllReadyH.cons (o := o12) rfl (fun K hK => ?_) AllReadyH.nil))
    · rw [if_pos (wa8 _)]
      refine s_8  w0 i0 K (fun u8 w1 i1 => hK.out _ _ (z8_ u8 w1 i1) (fun _ => ?_))
      clear hK
      refine wpAnyH_take (i := 9) (oi := o9) rfl hs f_8_9 r_8_9 (fun _ _ _ h => h) (y_8_9 u8 w1 i1) (z8_ u8 w1 i1) ?_
      refine wpAnyH_take (i := 10) (oi := o10) rfl hs f_8_10 r_8_10 (fun _ _ _ h => h) (y_8_10 u8 w1 i1) (z8_ u8 w1 i1) ?_
      refine wpAnyH_take (i := 11) (oi := o11) rfl hs f_8_11 r_8_11 (fun _ _ _ h => h) (y_8_11 u8 w1 i1) (z8_ u8 w1 i1) ?_
      exact t8_ u8 w1 i1
    · rw [if_pos (wa12 _)]
      refine s_12  w0 i0 K (fun u12 w1 i1 => hK.out _ _ (z12_ u12 w1 i1) (fun _ => ?_))
      clear hK
      exact t12_ u12 w1 i1
  exact t_ w.drew i0

end
end Go.Proofs.YtcijeplafknokaaDoor
namespace Go.Proofs.YtcijeplafknokaaDoor
open Go.RowKit Go.BigFrame
set_option linter.unusedVariables false
set_option linter.unusedSimpArgs false

set_option maxRecDepth 100000 in
set_option maxHeartbeats 1000000 in
theorem mtreeRanges_go (z : Int) (lv av : Value) (ls : List (List Nat)) (us : List Nat) (w : World) (hz : -9223372036854775808 ≤ z ∧ z ≤ 9223372036854775807) (hl : RdD w lv ls) (ha : RdQ w av us) (hT : Tabs w) (h6 : Tab6 w) :
    Calls Tryd.prog 4 #[.int .i64 z, lv, av] w fun e w' => e = .returned (.bool true) ∧ Kept [] w w' := by
  have HTB := hide hT
  have H6 := hide h6
  have HU := hide ha
  have HL := hide hl
  obtain ⟨ao, len, cap, rfl, h1, h2, h3, h4, h5⟩ := ha
  obtain ⟨la, ll, lc, rfl, l1, _⟩ := hl
  have HL1 := hide h1
  have HLL := hide l1
  clear hT h6 h4 h5 h1 l1
  go_enter Tryd.func4, Tryd.ntmps4
  go_wp2_with fail
  refine (mtawake_any w (unhide HTB) (unhide H6)).mono ?_
  rintro e w1 ⟨rfl, k1⟩
  have HK1 := hide k1
  clear k1
  go_wp2_with fail
  refine (grown_any z (.slice la ll lc) ls 7 w1 hz (by omega) ((unhide HL).old (unhide HK1)) ((unhide HTB).kept (unhide HK1) (by simp) (by simp)) ((unhide H6).kept (unhide HK1))).mono ?_
  rintro e w2 ⟨hg1, hg2, k2⟩
  have HK2 := hide ((unhide HK1).trans k2 (by simp))
  clear k2 HK1
  by_cases hfit : fitB z ls = true ∧ ls.length ≤ 400
  · obtain ⟨t, v, qs, rfl, htr, hlv, _⟩ := hg1 hfit
    have HTR := hide htr
    have HLV := hide hlv
    have hwd : widthB z = true := by have h9 := hfit.1; unfold fitB at h9; rw [Bool.and_eq_true] at h9; exact h9.1
    obtain ⟨k, rfl⟩ : ∃ k : Nat, z = (k : Int) := ⟨z.toNat, by have := width_le hwd; omega⟩
    have hk : 1 ≤ k ∧ k ≤ 32 := by have := width_le hwd; omega
    have HLE := hide hfit.2
    clear hg1 hg2 htr hlv hfit
    by_cases hlen : len < 2
    · have hlen' : (len : Int) < 2 := by omega
      go_wp2_with fail
      go_ret
      exact ⟨rfl, unhide HK2⟩
    · have hlen' : ¬ (len : Int) < 2 := by omega
      obtain ⟨_, _, _, he, hel, _, _, hub, hcell⟩ := (unhide HU).old (unhide HK2)
      cases he
      obtain ⟨b, o, rfl, hc⟩ := hcell (by omega)
      have e0 := hc 0 (by omega)
      have e1 := hc 1 (by omega)
      generalize us.getD 0 0 = a0 at e0
      generalize us.getD 1 0 = a1 at e1
      rw [Nat.add_zero] at e0
      have hi0 : ¬ (len : Int) ≤ 0 := by omega
      have hi1 : ¬ (len : Int) ≤ 1 := by omega
      have hi2 : ¬ len = 0 := by omega
      have hi3 : ¬ len ≤ 1 := by omega
      have hbw := block_lt_of_cell e0
      simp only at hbw
      clear hc hcell HU hub hel
      have hb4 : (leavesK qs).length < 4096 := by rw [unhide HLV]; have := unhide HLE; omega
      have hls : ls.length < 4611686018427387904 := by have := unhide HLE; omega
      have HRG := hide (fun lo hi (w' : World) (i : Kept [] w2 w') => rangeT_all k t v qs lo hi w' ((unhide HTR).old i) hb4 ((unhide HTB).kept ((unhide HK2).trans i (by simp)) (by simp) (by simp)) ((unhide H6).kept ((unhide HK2).trans i (by simp))))
      have HRT := hide (fun n (w' : World) (i : Kept [] w2 w') => rootT_all k t v qs n w' ((unhide HTR).old i) hb4 ((unhide HTB).kept ((unhide HK2).trans i (by simp)) (by simp) (by simp)) ((unhide H6).kept ((unhide HK2).trans i (by simp))))
      have HLF := hide (fun n (w' : World) (i : Kept [] w2 w') => leafT_all k t v qs n w' ((unhide HTR).old i) hb4)
      have HDR := hide (fun lo hi (w' : World) (i : Kept [] w2 w') => docRange_all k hk (.slice la ll lc) ls lo hi w' ((unhide HL).old ((unhide HK2).trans i (by simp))) hls)
      have HDL := hide (fun n (w' : World) (i : Kept [] w2 w') => docLeaf_all (.slice la ll lc) ls n w' ((unhide HL).old ((unhide HK2).trans i (by simp))) hls)
      have HDG := hide (fun lo hi => rgD_len (unhide HTR).pk lo hi)
      have HDF := hide (fun n => lfD_dg (unhide HTR).pk n)
      rw [unhide HLV] at HRG HRT HLF HDG HDF
      have hdl := (unhide HDG a0 a1).1
      have HR1 := hide (unhide HRG a0 a1)
      have HR2 := hide (unhide HDR a0 a1)
      generalize rgD k ls a0 a1 = D at HR1 HR2 hdl
      generalize rgE ls a0 a1 = E at HR1 HR2
      have hqd : ∀ W, (Op.equalIn 10000 43 (.agg (brow D)) (.agg (brow D))).run Tryd.prog W = .ok true W := dig_same D hdl
      go_wp2_with fail
      refine wp_em14 (by kernel_rfl) (by kernel_rfl) (by kernel_rfl) (by kernel_rfl) (by kernel_rfl) (by kernel_rfl) (by kernel_rfl) (by kernel_rfl) (by kernel_rfl) (by kernel_rfl) (by kernel_rfl) (by kernel_rfl) (by kernel_rfl) (by kernel_rfl) (by kernel_rfl) (by kernel_rfl) (by kernel_rfl) (by kernel_rfl) (by kernel_rfl) (by kernel_rfl) (by kernel_rfl) (by kernel_rfl) (by kernel_rfl) (by kernel_rfl) (by kernel_rfl) (by kernel_rfl) (by kernel_rfl) (by kernel_rfl) (by kernel_rfl) (by kernel_rfl) (by kernel_rfl) (by kernel_rfl) (by kernel_rfl) (by kernel_rfl) (by kernel_rfl) rfl rfl rfl (by simp) (by simp) (by simp) (by simp)
        (.pointer (some ⟨t, 0, none⟩)) (.slice (some ⟨b, o, none⟩) len cap) (.pointer (some ⟨b, o, none⟩)) (.int .u64 (a0 : Int)) (.slice (some ⟨b, o, none⟩) len cap) (.pointer (some ⟨b, o + 1, none⟩)) (.int .u64 (a1 : Int)) _ _ _ _ _ _ _
        (fun w' => Kept [] w2 w')
        (fun w' => Kept [] w2 w')
        (fun u w' => u = .tuple #[.agg (brow D), .int .i64 E] ∧ Kept [] w2 w')
        (fun y w' => (∃ g, y = .pointer (some ⟨g, 0, none⟩) ∧ w2.heap.size ≤ g ∧ w'.heap[g]? = some (.cells (zb 32) 43 (0, 0))) ∧ Kept [] w2 w')
        (fun u y w' => u = .tuple #[.agg (brow D), .int .i64 E] ∧ (∃ g, y = .pointer (some ⟨g, 0, none⟩) ∧ w2.heap.size ≤ g ∧ w'.heap[g]? = some (.cells (zb 32) 43 (0, 0))) ∧ Kept [] w2 w')
        (fun u y x w' => u = .tuple #[.agg (brow D), .int .i64 E] ∧ (∃ g, y = .pointer (some ⟨g, 0, none⟩) ∧ w2.heap.size ≤ g ∧ w'.heap[g]? = some (.cells (brow D) 43 (0, 0))) ∧ Kept [] w2 w')
        (fun u => u) (fun u => .agg (brow D)) (fun u => .int .i64 E) (fun u => .int .i64 E)
        (by simp only [Act.put, List.setIfInBounds_toArray, List.set_cons_zero, List.set_cons_succ]; rfl) (by exact Or.inl ⟨by rfl, fun W' hW' => by go_simp⟩)
        (by simp only [Act.put, List.setIfInBounds_toArray, List.set_cons_zero, List.set_cons_succ]; rfl) (by exact Or.inl ⟨by rfl, fun W' hW' => by go_simp⟩)
        (by simp only [Act.put, List.setIfInBounds_toArray, List.set_cons_zero, List.set_cons_succ]; rfl) (by exact Or.inl ⟨by rfl, fun W' hW' => by go_simp⟩)
        (by simp only [Act.put, List.setIfInBounds_toArray, List.set_cons_zero, List.set_cons_succ]; rfl) (by exact Or.inl ⟨by rfl, fun W' hW' => by have h9 := hW'.cell e0 (by simp); go_simp⟩)
        (by simp only [Act.put, List.setIfInBounds_toArray, List.set_cons_zero, List.set_cons_succ]; rfl) (by exact Or.inl ⟨by rfl, fun W' hW' => by go_simp⟩)
        (by simp only [Act.put, List.setIfInBounds_toArray, List.set_cons_zero, List.set_cons_succ]; rfl) (by exact Or.inl ⟨by rfl, fun W' hW' => by go_simp⟩)
        (by simp only [Act.put, List.setIfInBounds_toArray, List.set_cons_zero, List.set_cons_succ]; rfl) (by exact Or.inl ⟨by rfl, fun W' hW' => by have h9 := hW'.cell e1 (by simp); go_simp⟩)
        (Kept.refl [] w2).drew
        ⟨fun w' h => h, fun u w' h => h.2, fun y w' h => h.2, fun u y w' h => h.2.2, fun u y x w' h => h.2.2⟩
        (by intro w' i K hK; exact wp_callN rfl Tryd.call16 [.pointer (some ⟨t, 0, none⟩), .int .u64 (a0 : Int), .int .u64 (a1 : Int)] rfl (unhide HR1 w' i) (fun e w2 h => ⟨_, h.1, hK _ _ ⟨rfl, i.trans h.2 (by simp)⟩⟩))
        (by intro w' i K hK; unfold Oper.wp execOp; go_simp; rw [zb32]; exact hK _ _ ⟨⟨_, rfl, i.size, heap_alloc_new w' (.cells (zb 32) 43)⟩, i.alloc _⟩)
        (by rintro u w' ⟨rfl, i⟩ K hK; unfold Oper.wp execOp; go_simp; rw [zb32]; exact hK _ _ ⟨rfl, ⟨_, rfl, i.size, heap_alloc_new w' (.cells (zb 32) 43)⟩, i.alloc _⟩)
        (by rintro y w' ⟨⟨g, rfl, h1, h2⟩, i⟩ K hK; exact wp_callN rfl Tryd.call16 [.pointer (some ⟨t, 0, none⟩), .int .u64 (a0 : Int), .int .u64 (a1 : Int)] rfl (unhide HR1 w' i) (fun e w2 h => ⟨_, h.1, hK _ _ ⟨rfl, ⟨g, rfl, h1, h.2.heap h2 (by simp)⟩, i.trans h.2 (by simp)⟩⟩))
        (by
          intro u y w' hh K hK
          simp only [Act.put, List.setIfInBounds_toArray, List.set_cons_zero, List.set_cons_succ] at hK ⊢
          obtain ⟨rfl, ⟨g, rfl, h1, h2⟩, i⟩ := hh
          exact wp_store_row 43 _ _ rfl g (brow D) rfl rfl _ (zb 32) h2 (Tryd.szD hdl) (by rw [zb_size, brow_size, hdl]) (brow_one _) (hK undef _ ⟨rfl, ⟨g, rfl, h1, setRow_heap _ _ _ _ _ _ h2⟩, i.setRow (Or.inr h1) _⟩))
        (by rintro u w' ⟨rfl, _⟩; exact Or.inl ⟨by rfl, fun W' hW' => by go_simp⟩)
        (by rintro u w' ⟨rfl, _⟩; exact Or.inl ⟨by rfl, fun W' hW' => by go_simp⟩)
        (by rintro u w' ⟨rfl, _⟩; exact Or.inl ⟨by rfl, fun W' hW' => by go_simp⟩)
        (by rintro u y w' ⟨rfl, ⟨g, rfl, _⟩, _⟩; exact Or.inl ⟨by rfl, fun W' hW' => by go_simp⟩)
        (by rintro u y w' ⟨rfl, ⟨g, rfl, _⟩, _⟩; exact Or.inl ⟨by rfl, fun W' hW' => by go_simp⟩)
        (by rintro u y w' ⟨rfl, ⟨g, rfl, _⟩, _⟩; exact Or.inl ⟨by rfl, fun W' hW' => by go_simp⟩)
        (by rintro u y x w' ⟨rfl, ⟨g, rfl, _⟩, _⟩; exact Or.inl ⟨by rfl, fun W' hW' => by go_simp⟩)
        ?_
      rintro u y x1 Y1 ⟨rfl, ⟨g1, rfl, hg1, hrow1⟩, kY1⟩
      simp only [Act.put, List.setIfInBounds_toArray, List.set_cons_zero, List.set_cons_succ]
      have HKY1 := hide kY1
      have HRW1 := hide hrow1
      have f0 := kY1.cell e0 (by simp)
      have f1 := kY1.cell e1 (by simp)
      clear kY1 hrow1 e0 e1
      go_wp2_with fail
      refine wp_ra15 (by kernel_rfl) (by kernel_rfl) (by kernel_rfl) (by kernel_rfl) (by kernel_rfl) (by kernel_rfl) (by kernel_rfl) (by kernel_rfl) (by kernel_rfl) (by kernel_rfl) (by kernel_rfl) (by kernel_rfl) (by kernel_rfl) (by kernel_rfl) (by kernel_rfl) (by kernel_rfl) (by kernel_rfl) (by kernel_rfl) (by kernel_rfl) (by kernel_rfl) (by kernel_rfl) (by kernel_rfl) (by kernel_rfl) (by kernel_rfl) (by kernel_rfl) (by kernel_rfl) (by kernel_rfl) (by kernel_rfl) (by kernel_rfl) (by kernel_rfl) (by kernel_rfl) (by kernel_rfl) (by kernel_rfl) (by kernel_rfl) (by kernel_rfl) (by kernel_rfl) (by kernel_rfl) rfl rfl rfl (by simp) (by simp) (by simp) (by simp)
        (.int .i64 (k : Int)) (.slice la ll lc) (.slice (some ⟨b, o, none⟩) len cap) (.pointer (some ⟨b, o, none⟩)) (.int .u64 (a0 : Int)) (.slice (some ⟨b, o, none⟩) len cap) (.pointer (some ⟨b, o + 1, none⟩)) (.int .u64 (a1 : Int)) _ _ _ _ _ _ _ _
        (fun w' => Kept [] Y1 w')
        (fun w' => Kept [] Y1 w')
        (fun u w' => u = .tuple #[.agg (brow D), .int .i64 E] ∧ Kept [] Y1 w')
        (fun y w' => (∃ g, y = .pointer (some ⟨g, 0, none⟩) ∧ Y1.heap.size ≤ g ∧ w'.heap[g]? = some (.cells (zb 32) 43 (0, 0))) ∧ Kept [] Y1 w')
        (fun u y w' => u = .tuple #[.agg (brow D), .int .i64 E] ∧ (∃ g, y = .pointer (some ⟨g, 0, none⟩) ∧ Y1.heap.size ≤ g ∧ w'.heap[g]? = some (.cells (zb 32) 43 (0, 0))) ∧ Kept [] Y1 w')
        (fun u y x w' => u = .tuple #[.agg (brow D), .int .i64 E] ∧ (∃ g, y = .pointer (some ⟨g, 0, none⟩) ∧ Y1.heap.size ≤ g ∧ w'.heap[g]? = some (.cells (brow D) 43 (0, 0))) ∧ Kept [] Y1 w')
        (fun u => u) (fun u => .agg (brow D)) (fun u => .int .i64 E) (fun u => .int .i64 E)
        (by simp only [Act.put, List.setIfInBounds_toArray, List.set_cons_zero, List.set_cons_succ]; rfl) (by exact Or.inl ⟨by rfl, fun W' hW' => by go_simp⟩)
        (by simp only [Act.put, List.setIfInBounds_toArray, List.set_cons_zero, List.set_cons_succ]; rfl) (by exact Or.inl ⟨by rfl, fun W' hW' => by go_simp⟩)
        (by simp only [Act.put, List.setIfInBounds_toArray, List.set_cons_zero, List.set_cons_succ]; rfl) (by exact Or.inl ⟨by rfl, fun W' hW' => by go_simp⟩)
        (by simp only [Act.put, List.setIfInBounds_toArray, List.set_cons_zero, List.set_cons_succ]; rfl) (by exact Or.inl ⟨by rfl, fun W' hW' => by go_simp⟩)
        (by simp only [Act.put, List.setIfInBounds_toArray, List.set_cons_zero, List.set_cons_succ]; rfl) (by exact Or.inl ⟨by rfl, fun W' hW' => by have h9 := hW'.cell f0 (by simp); go_simp⟩)
        (by simp only [Act.put, List.setIfInBounds_toArray, List.set_cons_zero, List.set_cons_succ]; rfl) (by exact Or.inl ⟨by rfl, fun W' hW' => by go_simp⟩)
        (by simp only [Act.put, List.setIfInBounds_toArray, List.set_cons_zero, List.set_cons_succ]; rfl) (by exact Or.inl ⟨by rfl, fun W' hW' => by go_simp⟩)
        (by simp only [Act.put, List.setIfInBounds_toArray, List.set_cons_zero, List.set_cons_succ]; rfl) (by exact Or.inl ⟨by rfl, fun W' hW' => by have h9 := hW'.cell f1 (by simp); go_simp⟩)
        (Kept.refl [] Y1).drew
        ⟨fun w' h => h, fun u w' h => h.2, fun y w' h => h.2, fun u y w' h => h.2.2, fun u y x w' h => h.2.2⟩
        (by intro w' i K hK; exact wp_callN rfl Tryd.call17 [.int .i64 (k : Int), .slice la ll lc, .int .u64 (a0 : Int), .int .u64 (a1 : Int)] rfl ((fun w' i => unhide HR2 w' ((unhide HKY1).trans i (by simp))) w' i) (fun e w2 h => ⟨_, h.1, hK _ _ ⟨rfl, i.trans h.2 (by simp)⟩⟩))
        (by intro w' i K hK; unfold Oper.wp execOp; go_simp; rw [zb32]; exact hK _ _ ⟨⟨_, rfl, i.size, heap_alloc_new w' (.cells (zb 32) 43)⟩, i.alloc _⟩)
        (by rintro u w' ⟨rfl, i⟩ K hK; unfold Oper.wp execOp; go_simp; rw [zb32]; exact hK _ _ ⟨rfl, ⟨_, rfl, i.size, heap_alloc_new w' (.cells (zb 32) 43)⟩, i.alloc _⟩)
        (by rintro y w' ⟨⟨g, rfl, h1, h2⟩, i⟩ K hK; exact wp_callN rfl Tryd.call17 [.int .i64 (k : Int), .slice la ll lc, .int .u64 (a0 : Int), .int .u64 (a1 : Int)] rfl ((fun w' i => unhide HR2 w' ((unhide HKY1).trans i (by simp))) w' i) (fun e w2 h => ⟨_, h.1, hK _ _ ⟨rfl, ⟨g, rfl, h1, h.2.heap h2 (by simp)⟩, i.trans h.2 (by simp)⟩⟩))
        (by
          intro u y w' hh K hK
          simp only [Act.put, List.setIfInBounds_toArray, List.set_cons_zero, List.set_cons_succ] at hK ⊢
          obtain ⟨rfl, ⟨g, rfl, h1, h2⟩, i⟩ := hh
          exact wp_store_row 43 _ _ rfl g (brow D) rfl rfl _ (zb 32) h2 (Tryd.szD hdl) (by rw [zb_size, brow_size, hdl]) (brow_one _) (hK undef _ ⟨rfl, ⟨g, rfl, h1, setRow_heap _ _ _ _ _ _ h2⟩, i.setRow (Or.inr h1) _⟩))
        (by rintro u w' ⟨rfl, _⟩; exact Or.inl ⟨by rfl, fun W' hW' => by go_simp⟩)
        (by rintro u w' ⟨rfl, _⟩; exact Or.inl ⟨by rfl, fun W' hW' => by go_simp⟩)
        (by rintro u w' ⟨rfl, _⟩; exact Or.inl ⟨by rfl, fun W' hW' => by go_simp⟩)
        (by rintro u y w' ⟨rfl, ⟨g, rfl, _⟩, _⟩; exact Or.inl ⟨by rfl, fun W' hW' => by go_simp⟩)
        (by rintro u y w' ⟨rfl, ⟨g, rfl, _⟩, _⟩; exact Or.inl ⟨by rfl, fun W' hW' => by go_simp⟩)
        (by rintro u y w' ⟨rfl, ⟨g, rfl, _⟩, _⟩; exact Or.inl ⟨by rfl, fun W' hW' => by go_simp⟩)
        (by rintro u y x w' ⟨rfl, ⟨g, rfl, _⟩, _⟩; exact Or.inl ⟨by rfl, fun W' hW' => by go_simp⟩)
        ?_
      rintro u y x2 Y2 ⟨rfl, ⟨g2, rfl, hg2, hrow2⟩, kY2⟩
      simp only [Act.put, List.setIfInBounds_toArray, List.set_cons_zero, List.set_cons_succ]
      have HKY2 := hide ((unhide HKY1).trans kY2 (by simp))
      have HRA := hide (kY2.heap (unhide HRW1) (by simp))
      have HRB := hide hrow2
      have p0 := kY2.cell f0 (by simp)
      have p1 := kY2.cell f1 (by simp)
      have hsz1 := lt_of_block (unhide HRW1)
      have hg12 : ¬ g2 = g1 := by omega
      clear kY2 hrow2 f0 f1 HKY1 HRW1
      go_wp2_with (first
        | (refine wpList_load_row rfl 43 (.tmp 9) rfl g1 rfl _ (brow D) (0, 0) _ (unhide HRA) Tryd.underlying43 rfl (Tryd.szD hdl) ?_)
        | (refine wpList_load_row rfl 43 (.tmp 11) rfl g2 rfl _ (brow D) (0, 0) _ (unhide HRB) Tryd.underlying43 rfl (Tryd.szD hdl) ?_))
      clear HR1 HR2
      have HR1 := hide (unhide HRT a1)
      have HR2 := hide (unhide HDR 0 a1)
      have hdl3 := (unhide HDG 0 a1).1
      generalize rgD k ls 0 a1 = D3 at HR1 HR2 hdl3
      generalize rgE ls 0 a1 = E3 at HR1 HR2
      have hqd3 : ∀ W, (Op.equalIn 10000 43 (.agg (brow D3)) (.agg (brow D3))).run Tryd.prog W = .ok true W := dig_same D3 hdl3
      refine (unhide HR1 Y2 (unhide HKY2)).mono ?_
      rintro e Ya3 ⟨rfl, ka⟩
      have HKa3 := hide ((unhide HKY2).trans ka (by simp))
      have HA3 := hide (ka.heap (unhide HRA) (by simp))
      have HB3 := hide (ka.heap (unhide HRB) (by simp))
      have pa0 := ka.cell p0 (by simp)
      have pa1 := ka.cell p1 (by simp)
      clear ka p0 p1
      have HA32 := hide (setRow_heap Ya3 g1 (brow D) (brow D3) 43 (0, 0) (unhide HA3))
      have HB32 := hide ((setRow_other Ya3 g1 g2 (brow D3) (by omega)).trans (unhide HB3))
      have HKb3 := hide ((unhide HKa3).setRow (g := g1) (Or.inr (by omega)) (brow D3))
      have kg := (Kept.refl [g1] Ya3).setRow (g := g1) (Or.inl (by simp)) (brow D3)
      have pb0 := kg.cell pa0 (by simp; omega)
      have pb1 := kg.cell pa1 (by simp; omega)
      clear kg pa0 pa1
      go_wp2_with (refine wpList_store_row rfl 43 (.tmp 9) _ rfl g1 (brow D3) rfl rfl _ (brow D) (unhide HA3) (Tryd.szD hdl3) (by rw [brow_size, brow_size, hdl3, hdl]) (brow_one _) ?_)
      obtain ⟨Yb3, hYb⟩ : ∃ Yb, Ya3.setRow g1 (brow D3) = Yb := ⟨_, rfl⟩
      rw [hYb] at HA32 HB32 HKb3 pb0 pb1 ⊢
      clear hYb
      refine (unhide HR2 Yb3 (unhide HKb3)).mono ?_
      rintro e Yc3 ⟨rfl, kc⟩
      have HKc3 := hide ((unhide HKb3).trans kc (by simp))
      have HA33 := hide (kc.heap (unhide HA32) (by simp))
      have HB33 := hide (kc.heap (unhide HB32) (by simp))
      have pc0 := kc.cell pb0 (by simp)
      have pc1 := kc.cell pb1 (by simp)
      clear kc pb0 pb1
      have HA34 := hide ((setRow_other Yc3 g2 g1 (brow D3) (by omega)).trans (unhide HA33))
      have HB34 := hide (setRow_heap Yc3 g2 (brow D) (brow D3) 43 (0, 0) (unhide HB33))
      have HKd3 := hide ((unhide HKc3).setRow (g := g2) (Or.inr (by omega)) (brow D3))
      have kg := (Kept.refl [g2] Yc3).setRow (g := g2) (Or.inl (by simp)) (brow D3)
      have p0 := kg.cell pc0 (by simp; omega)
      have p1 := kg.cell pc1 (by simp; omega)
      clear kg pc0 pc1
      go_wp2_with (first
        | (refine wpList_store_row rfl 43 (.tmp 11) _ rfl g2 (brow D3) rfl rfl _ (brow D) (unhide HB33) (Tryd.szD hdl3) (by rw [brow_size, brow_size, hdl3, hdl]) (brow_one _) ?_)
        | (refine wpList_load_row rfl 43 (.tmp 9) rfl g1 rfl _ (brow D3) (0, 0) _ (unhide HA34) Tryd.underlying43 rfl (Tryd.szD hdl3) ?_)
        | (refine wpList_load_row rfl 43 (.tmp 11) rfl g2 rfl _ (brow D3) (0, 0) _ (unhide HB34) Tryd.underlying43 rfl (Tryd.szD hdl3) ?_))
      clear HR1 HR2
      obtain ⟨Yd3, hYd⟩ : ∃ Yd, Yc3.setRow g2 (brow D3) = Yd := ⟨_, rfl⟩
      rw [hYd] at HA34 HB34 HKd3 p0 p1 ⊢
      clear hYd
      have HR1 := hide (unhide HLF a0)
      have HR2 := hide (unhide HDL a0)
      have hdl5 := (unhide HDF a0).1
      generalize lfD ls a0 = D5 at HR1 HR2 hdl5
      generalize lfE ls a0 = E5 at HR1 HR2
      have hqd5 : ∀ W, (Op.equalIn 10000 43 (.agg (brow D5)) (.agg (brow D5))).run Tryd.prog W = .ok true W := dig_same D5 hdl5
      refine (unhide HR1 Yd3 (unhide HKd3)).mono ?_
      rintro e Ya5 ⟨rfl, ka⟩
      have HKa5 := hide ((unhide HKd3).trans ka (by simp))
      have HA5 := hide (ka.heap (unhide HA34) (by simp))
      have HB5 := hide (ka.heap (unhide HB34) (by simp))
      have pa0 := ka.cell p0 (by simp)
      have pa1 := ka.cell p1 (by simp)
      clear ka p0 p1
      have HA52 := hide (setRow_heap Ya5 g1 (brow D3) (brow D5) 43 (0, 0) (unhide HA5))
      have HB52 := hide ((setRow_other Ya5 g1 g2 (brow D5) (by omega)).trans (unhide HB5))
      have HKb5 := hide ((unhide HKa5).setRow (g := g1) (Or.inr (by omega)) (brow D5))
      have kg := (Kept.refl [g1] Ya5).setRow (g := g1) (Or.inl (by simp)) (brow D5)
      have pb0 := kg.cell pa0 (by simp; omega)
      have pb1 := kg.cell pa1 (by simp; omega)
      clear kg pa0 pa1
      go_wp2_with (refine wpList_store_row rfl 43 (.tmp 9) _ rfl g1 (brow D5) rfl rfl _ (brow D3) (unhide HA5) (Tryd.szD hdl5) (by rw [brow_size, brow_size, hdl5, hdl3]) (brow_one _) ?_)
      obtain ⟨Yb5, hYb⟩ : ∃ Yb, Ya5.setRow g1 (brow D5) = Yb := ⟨_, rfl⟩
      rw [hYb] at HA52 HB52 HKb5 pb0 pb1 ⊢
      clear hYb
      refine (unhide HR2 Yb5 (unhide HKb5)).mono ?_
      rintro e Yc5 ⟨rfl, kc⟩
      have HKc5 := hide ((unhide HKb5).trans kc (by simp))
      have HA53 := hide (kc.heap (unhide HA52) (by simp))
      have HB53 := hide (kc.heap (unhide HB52) (by simp))
      have pc0 := kc.cell pb0 (by simp)
      have pc1 := kc.cell pb1 (by simp)
      clear kc pb0 pb1
      have HA54 := hide ((setRow_other Yc5 g2 g1 (brow D5) (by omega)).trans (unhide HA53))
      have HB54 := hide (setRow_heap Yc5 g2 (brow D3) (brow D5) 43 (0, 0) (unhide HB53))
      have HKd5 := hide ((unhide HKc5).setRow (g := g2) (Or.inr (by omega)) (brow D5))
      have kg := (Kept.refl [g2] Yc5).setRow (g := g2) (Or.inl (by simp)) (brow D5)
      have p0 := kg.cell pc0 (by simp; omega)
      have p1 := kg.cell pc1 (by simp; omega)
      clear kg pc0 pc1
      go_wp2_with (first
        | (refine wpList_store_row rfl 43 (.tmp 11) _ rfl g2 (brow D5) rfl rfl _ (brow D3) (unhide HB53) (Tryd.szD hdl5) (by rw [brow_size, brow_size, hdl5, hdl3]) (brow_one _) ?_)
        | (refine wpList_load_row rfl 43 (.tmp 9) rfl g1 rfl _ (brow D5) (0, 0) _ (unhide HA54) Tryd.underlying43 rfl (Tryd.szD hdl5) ?_)
        | (refine wpList_load_row rfl 43 (.tmp 11) rfl g2 rfl _ (brow D5) (0, 0) _ (unhide HB54) Tryd.underlying43 rfl (Tryd.szD hdl5) ?_))
      have HKF := hide ((unhide HK2).trans (unhide HKd5) (by simp))
      go_ret
      exact ⟨rfl, unhide HKF⟩
  · obtain rfl := hg2 hfit
    clear hg1 hg2
    go_wp2_with fail
    go_ret
    exact ⟨rfl, unhide HK2⟩

theorem mtreeRanges_walk (z : Int) (lv : Value) (ls : List (List Nat)) (av : Value) (us : List Nat) (w : World) (hz : -9223372036854775808 ≤ z ∧ z ≤ 9223372036854775807) (hl : RdD w lv ls) (hx : ls.length ≤ 1048576) (ha : RdQ w av us) (h : Tabs w ∧ Tab6 w) :
    Calls Tryd.prog 4 #[.int .i64 z, lv, av] w fun e w' => e = .returned (.bool true) ∧ Below w.heap.size w w' :=
  (mtreeRanges_go z lv av ls us w hz hl ha h.1 h.2).mono fun e w' h9 => ⟨h9.1, h9.2.below (Nat.le_refl _) (by simp)⟩
end Go.Proofs.YtcijeplafknokaaDoor
namespace Go.Proofs.YtcijeplafknokaaDoor
open Go Go.RowKit
set_option linter.unusedVariables false
set_option linter.unusedSimpArgs false
section
variable {H : Type} {enc : TypeId × Value → H} {W : World}

def natOf : Value → Nat
  | .int _ n => n.toNat
  | _ => 0
/-- A digest that came in. -/
theorem open_dig {fuel : Nat} {cs : List Value} {x : DataW H × List MemPlace} (h : DataW.trod enc Tryd.prog W 0 (fun _ => true) true fuel 43 cs = some x) :
    ∃ l : List Nat, cs = l.map u8 ∧ l.length = 32 ∧ ∀ y ∈ l, y < 256 := by
  obtain ⟨xs, m, _, rfl, hl, hn, hc⟩ := DataW.trod_array Tryd.underlying43 h
  rw [show Tryd.prog.cellsOf 43 = 32 from by kernel_rfl] at hl
  rw [show Tryd.prog.cellsOf 5 = 1 from by kernel_rfl] at hc
  have key : ∀ i (hi : i < cs.length), cs[i] = u8 (natOf cs[i]) ∧ natOf cs[i] < 256 := by
    intro i hi
    have h1 := hc i (by omega)
    rw [Nat.mul_one, List.getElem?_eq_getElem (by omega)] at h1
    obtain ⟨n, e, _, hw⟩ := DataW.trod_int Tryd.underlying5 h1
    rw [List.drop_eq_getElem_cons hi, List.take_succ_cons, List.take_zero] at e
    simp only [List.cons.injEq, and_true] at e
    have := byte_of_wf hw
    rw [e]
    refine ⟨?_, ?_⟩
    · simp [u8, natOf]; omega
    · simp [natOf]; omega
  refine ⟨cs.map natOf, ?_, by simp [hl], ?_⟩
  · rw [List.map_map]
    refine List.ext_getElem (by simp) fun i h1 h2 => ?_
    rw [List.getElem_map]
    exact (key i h1).1
  · intro y hy
    obtain ⟨v, hv, rfl⟩ := List.mem_map.1 hy
    obtain ⟨i, hi, rfl⟩ := List.getElem_of_mem hv
    exact (key i hi).2
set_option maxRecDepth 100000 in
theorem open_digv {b0 : Nat} {v : Value} {d : DataW H} {ps : List MemPlace} (hv : Value.okWide Tryd.prog W .any b0 43 v) (h : DataW.Trod enc Tryd.prog W 0 (fun _ => true) true 43 v d ps) :
    ∃ l : List Nat, v = .agg (brow l) ∧ l.length = 32 ∧ ∀ y ∈ l, y < 256 := by
  unfold Value.okWide at hv
  rw [Tryd.underlying43] at hv
  obtain ⟨cs, rfl, _, _⟩ := hv
  obtain ⟨fuel, hf⟩ := h
  obtain ⟨l, e, h1, h2⟩ := open_dig hf
  refine ⟨l, ?_, h1, h2⟩
  simp only [Value.cells] at e
  unfold brow
  rw [← e]
end
end Go.Proofs.YtcijeplafknokaaDoor
namespace Go.Proofs.YtcijeplafknokaaDoor
open Go.ChangeShapes Go.WideShapes Go.ChangeAt Go.RowKit Go.Deep
set_option linter.unusedVariables false
set_option linter.unusedSimpArgs false
section
variable {H : Type} {enc : TypeId × Value → H} {W : World}

/-- Digests that came in. -/
theorem open_digs2 {fuel : Nat} {cs : List Value} {x : DataW H × List MemPlace} (h : DataW.trod enc Tryd.prog W 0 (fun _ => true) true fuel 32 cs = some x) (hB : Rows.uptoBulk x.1 ≤ 1048576) :
    ∃ v ds, cs = [v] ∧ RdD W v ds ∧ ds.length ≤ 1048576 := by
  rcases open_slice Tryd.underlying32 h with ⟨rfl, rfl⟩ | ⟨a, len, cap, m, n, D, Pl, rfl, _, hl, hm, hmm, rfl, hx⟩
  · exact ⟨_, [], rfl, ⟨none, 0, 0, rfl, rfl, Nat.le_refl _, by omega, fun d hd => by simp at hd, fun h => by omega⟩, by simp⟩
  · have hC : Tryd.prog.cellsOf 43 = 32 := by kernel_rfl
    rw [hC] at hx
    simp only [if_true] at hmm
    simp only [Rows.uptoBulk] at hB
    have hcap : cap ≤ 1048576 := by
      have h1 := bulk_len ((List.range len).map D)
      have h2 := bulk_len ((List.range (m - len)).map fun j => D (len + j))
      simp at h1 h2
      omega
    obtain ⟨f, hf⟩ := choose_lt (α := List Nat) (n := len) (p := fun i o => (∀ j v, (o.map u8)[j]? = some v → W.cell? ((a.add (i * 32)).add j) = some v) ∧ o.length = 32 ∧ ∀ y ∈ o, y < 256) (by
      intro i hi
      obtain ⟨cs', h1, h2⟩ := hx i (by omega)
      obtain ⟨l, rfl, hl1, hl2⟩ := open_dig h2
      obtain ⟨_, hlen, hc⟩ := World.cells?_some h1
      refine ⟨l, fun j v hv => ?_, hl1, hl2⟩
      have hj := (List.getElem?_eq_some_iff.1 hv).1
      have := hc j (by rw [List.length_map] at hj; omega)
      rw [this, ← hv, List.getElem?_eq_getElem hj])
    refine ⟨_, (List.range len).map f, rfl, ⟨some a, len, cap, rfl, by simp, hl, by omega, ?_, ?_⟩, by simp; omega⟩
    · intro d hd
      obtain ⟨i, hi, rfl⟩ := List.mem_map.1 hd
      exact (hf i (List.mem_range.1 hi)).2
    · intro hp
      obtain ⟨b, off, spot⟩ := a
      have h0 := hf 0 hp
      have hc0 := h0.1 0 (u8 ((f 0).getD 0 0)) (by rw [List.getElem?_map, List.getD_eq_getElem?_getD, List.getElem?_eq_getElem (by omega)]; rfl)
      have hspot : spot = none := by simpa [Addr.add] using World.cell?_spot hc0
      subst hspot
      refine ⟨b, off, rfl, fun i hi j v hv => ?_⟩
      have e9 : ((List.range len).map f).getD i [] = f i := by simp [List.getD_eq_getElem?_getD, hi]
      rw [e9] at hv
      have := (hf i hi).1 j v hv
      rw [Addr.add_mid, Addr.add_mid] at this
      exact this

/-- Numbers of 64 bits that came in. -/
theorem open_u64s {fuel : Nat} {cs : List Value} {x : DataW H × List MemPlace} (h : DataW.trod enc Tryd.prog W 0 (fun _ => true) true fuel 39 cs = some x) :
    ∃ v ws, cs = [v] ∧ RdQ W v ws := by
  rcases open_ints Tryd.underlying39 Tryd.underlying46 (by kernel_rfl) h with ⟨rfl, rfl⟩ | ⟨a, len, cap, zs, rfl, _, hl, hm, hz, rfl, hcell, hwz⟩
  · exact ⟨_, [], rfl, ⟨none, 0, 0, rfl, rfl, Nat.le_refl _, by omega, by simp, fun h => by omega⟩⟩
  · have hbl : ((zs.take len).map Int.toNat).length = len := by simp at hz; simp; omega
    have hwf : ∀ y ∈ zs, 0 ≤ y ∧ y < 18446744073709551616 := by
      intro y hy
      have h9 := hwz y hy
      simp [Lit.wf, IntKind.min, IntKind.max, IntKind.signed, IntKind.bits] at h9
      omega
    refine ⟨_, (zs.take len).map Int.toNat, rfl, ⟨_, _, _, rfl, hbl, hl, by unfold maxLen at hm; omega, ?_, ?_⟩⟩
    · intro y hy
      obtain ⟨u, hu, rfl⟩ := List.mem_map.1 hy
      have := hwf u (List.mem_of_mem_take hu)
      omega
    · intro hp
      simp at hz
      have hc0 := hcell 0 (by omega)
      obtain ⟨b, off, spot⟩ := a
      have hspot : spot = none := by simpa [Addr.add] using World.cell?_spot hc0
      subst hspot
      refine ⟨b, off, rfl, fun i hi => ?_⟩
      have hc := hcell i (by omega)
      have hzi : i < zs.length := by omega
      have hzm := hwf (zs[i]) (List.getElem_mem hzi)
      rw [Addr.add_mid] at hc
      rw [hc]
      simp [List.getD_eq_getElem?_getD, List.getElem?_take, hi, hzi]
      omega
end
end Go.Proofs.YtcijeplafknokaaDoor
