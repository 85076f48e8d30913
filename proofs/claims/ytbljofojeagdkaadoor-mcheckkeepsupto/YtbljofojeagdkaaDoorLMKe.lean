import Derived.Test.YtbljofojeagdkaaDoorMCpy
import Derived.Test.YtbljofojeagdkaaDoorMSm
import Derived.Test.YtbljofojeagdkaaDoorMDCon
import Derived.Test.YtbljofojeagdkaaDoorMDInc
import Derived.Test.YtbljofojeagdkaaDoorMAw
namespace Go.Proofs.YtbljofojeagdkaaDoor
open Go.RowKit Go.BigFrame
set_option linter.unusedVariables false
set_option linter.unusedSimpArgs false

def d7 : List Nat := [7,0,0,0,0,0,0,0,0,0,0,0,0,0,0,0,0,0,0,0,0,0,0,0,0,0,0,0,0,0,0,0]
def d9k : List Nat := [9,0,0,0,0,0,0,0,0,0,0,0,0,0,0,0,0,0,0,0,0,0,0,0,0,0,0,0,0,0,0,0]
theorem d79_dg : ∀ d ∈ [d7, d9k], Dg d := by
  intro d hd
  rcases List.mem_cons.1 hd with rfl | hd
  · exact ⟨rfl, by decide⟩
  · rw [List.mem_singleton.1 hd]; exact ⟨rfl, by decide⟩

set_option maxRecDepth 100000 in
set_option maxHeartbeats 4000000 in
theorem mcheckKeeps_go (q : AskD) (pv ov : Value) (os : List (List Nat)) (w : World) (hq : OkA w q pv) (ho : RdD w ov os) (hT : Tabs w) :
    Calls Tryd.prog 3 #[.agg (askC q pv).toArray, ov] w fun e w' => e = .returned (.bool true) ∧ Kept [] w w' := by
  have HT := hide hT
  have HQ := hide hq
  have HOV := hide ho
  have hll := hq.l.1
  obtain ⟨ao, len, cap, rfl, h1, h2, h3, h4, h5⟩ := id hq.p
  subst h1
  obtain ⟨oa, on, oc, rfl, o1, o2, o3, o4, o5⟩ := id ho
  subst o1
  have hpl := hq.pl
  clear hT h4 h5 hq ho o4 o5
  have HG := hide (heap_alloc_new w (.cells (askC q (.slice ao q.p.length cap)).toArray 27))
  have HK0 := hide ((Kept.refl [] w).alloc (.cells (askC q (.slice ao q.p.length cap)).toArray 27))
  have HSL := hide (by rw [List.length_map, hll]; exact Tryd.size_dig : (Tryd.prog.info? 23).map (·.size) = some (q.l.map u8).length)
  go_enter Tryd.func3, Tryd.ntmps3
  go_wp2_with fail
  obtain ⟨W, hW⟩ : ∃ W, w.alloc (.cells (askC q (.slice ao q.p.length cap)).toArray 27) = W := ⟨_, rfl⟩
  rw [hW] at HG HK0 ⊢
  clear hW
  refine (mawake_any W ((unhide HT).k (unhide HK0))).mono ?_
  rintro e w1 ⟨rfl, k1⟩
  have HG1 := hide (k1.heap (unhide HG) (by simp))
  have HK1 := hide ((unhide HK0).trans k1 (by simp))
  clear k1 HG HK0
  obtain ⟨c0, r1, ⟨c33, c34, c35⟩, r36⟩ := ask_cells (unhide HG1) hll
  have HR1 := hide r1
  clear r1 r36
  go_wp2_with fail
  refine (twinD_any _ q.p w1 ((unhide HQ).p.old (unhide HK1)) hpl).mono ?_
  rintro e w2 ⟨u, rfl, rd2, k2, ow2⟩
  have HO2 := hide ((⟨ow2, fun d hd => (unhide HQ).p.dg hd, k2⟩ : OwD w1 w2 u q.p).pass ((Kept.refl [] w2).alloc (.cells (flatD [d7, d9k]).toArray 23)))
  obtain ⟨ua, uc, rfl⟩ := owns_form ow2
  clear rd2 k2 ow2 c0 c33 c34 c35 HR1
  go_wp2_with (at_builtin; refine wpList_appendD rfl (.tmp 29) (.tmp 32) rfl rfl (w2.alloc (.cells (flatD [d7, d9k]).toArray 23)) w1.heap.size (.slice ua q.p.length uc) q.p [d7, d9k] (some ⟨w2.heap.size, 0, none⟩) 2 2 (unhide HO2).own (RdD.flat (heap_alloc_new w2 (.cells (flatD [d7, d9k]).toArray 23)) d79_dg 2 rfl (by decide)) (by simp; omega) (unhide HO2).kept.size rfl rfl ?_; intro ao3 cap3 w3 HO3 HG3; have HO4 := hide (⟨unhide HO3, (fun d hd => by rcases List.mem_append.1 hd with hd | hd; exact (unhide HO2).dg d hd; exact d79_dg d hd), (unhide HO2).kept.grown (unhide HG3) (by intro k hk; right; exact ((unhide HO2).own.lt k hk).1)⟩ : OwD w1 w3 (.slice ao3 (q.p.length + 2) cap3) (q.p ++ [d7, d9k])); clear HG3 HO3)
  have hFl : (q.p ++ [d7, d9k]).length = q.p.length + 2 := by simp
  obtain ⟨F, hF⟩ : ∃ F, q.p ++ [d7, d9k] = F := ⟨_, rfl⟩
  rw [hF] at HO4 hFl
  have HF := hide hF
  clear hF HO2
  refine (twinB_any _ F w3 (unhide HO4).rd (by omega)).mono ?_
  rintro e w4 ⟨u4, rfl, rd4, k4, ow4⟩
  obtain ⟨g, hgw, hao, hcp⟩ : ∃ g, w1.heap.size ≤ g ∧ ao3 = some ⟨g, 0, none⟩ ∧ q.p.length + 2 ≤ cap3 := by
    rcases (unhide HO4).own.2 with ⟨_, h9⟩ | ⟨g, c9, cur, e9, h8, _, h7, _⟩
    · omega
    · simp only [Value.slice.injEq] at e9
      exact ⟨g, h8, e9.1, by omega⟩
  subst hao
  have HO5 := hide ((unhide HO4).pass k4)
  have HK4 := hide (unhide HO5).kept
  have HRW := hide rd4
  clear rd4 k4 ow4 HO4
  have HP4 := hide (by have h9 := (unhide HO5).rd.upto q.p.length (by omega); rw [← unhide HF, List.take_append_of_le_length (Nat.le_refl _), List.take_length] at h9; exact h9 : RdD w4 (.slice (some ⟨g, 0, none⟩) q.p.length cap3) q.p)
  have HG4 := hide ((unhide HK4).heap (unhide HG1) (by simp))
  have HTK := hide (fun W (kk : Kept [] w4 W) => (unhide HT).k ((unhide HK1).trans ((unhide HK4).trans kk (by simp)) (by simp)))
  have HQK := hide (fun W (kk : Kept [] w4 W) => (unhide HQ).p.old ((unhide HK1).trans ((unhide HK4).trans kk (by simp)) (by simp)))
  have HGK := hide (fun W (kk : Kept [] w4 W) => kk.heap (unhide HG4) (by simp))
  have HDD := hide (rootD_dg (z := q.z) (i := q.i) (n := q.n) (p := q.p) (unhide HQ).l)
  have HAB := hide (rootsD_dg (z := q.z) (m := q.i) (n := q.n) (unhide HQ).l (fun d hd => (unhide HQ).p.dg hd))
  have HRO := hide (fun W (kk : Kept [] w4 W) => rootOf_any q.z q.l q.i q.n (.slice (some ⟨g, 0, none⟩) q.p.length cap3) q.p W (unhide HQ).z (unhide HQ).l (unhide HQ).i (unhide HQ).n ((unhide HP4).old kk) (unhide HTK W kk))
  have HDR := hide (fun W (kk : Kept [] w4 W) => docRootOf_any q.z q.l q.i q.n (.slice ao q.p.length cap) q.p W (unhide HQ).z (unhide HQ).l (unhide HQ).i (unhide HQ).n (unhide HQK W kk) hpl)
  have HIN := hide (fun W (kk : Kept [] w4 W) => inclusion_any q.z q.l q.i q.n (.slice (some ⟨g, 0, none⟩) q.p.length cap3) q.p (rootD q.z q.l q.i q.n q.p) W (unhide HQ).z (unhide HQ).l (unhide HDD) (unhide HQ).i (unhide HQ).n ((unhide HP4).old kk) (unhide HTK W kk))
  have HDI := hide (fun W (kk : Kept [] w4 W) => docInclusion_any q.z q.l q.i q.n (.slice ao q.p.length cap) q.p (rootD q.z q.l q.i q.n q.p) W (unhide HQ).z (unhide HQ).l (unhide HDD) (unhide HQ).i (unhide HQ).n (unhide HQK W kk) hpl)
  have HRS := hide (fun W (kk : Kept [] w4 W) => rootsOf_any q.z q.i q.n q.l (.slice (some ⟨g, 0, none⟩) q.p.length cap3) q.p W (unhide HQ).z (unhide HQ).l (unhide HQ).i (unhide HQ).n ((unhide HP4).old kk) (unhide HTK W kk))
  have HDS := hide (fun W (kk : Kept [] w4 W) => docRootsOf_any q.z q.i q.n q.l (.slice ao q.p.length cap) q.p W (unhide HQ).z (unhide HQ).l (unhide HQ).i (unhide HQ).n (unhide HQK W kk) hpl)
  have HCO := hide (fun W (kk : Kept [] w4 W) => consistency_any q.z q.i q.n q.l (rootsD q.z q.l q.i q.n q.p).2 (.slice (some ⟨g, 0, none⟩) q.p.length cap3) q.p W (unhide HQ).z (unhide HQ).l (unhide HAB).2 (unhide HQ).i (unhide HQ).n ((unhide HP4).old kk) (unhide HTK W kk))
  have HDC := hide (fun W (kk : Kept [] w4 W) => docConsistency_any q.z q.i q.n q.l (rootsD q.z q.l q.i q.n q.p).2 (.slice ao q.p.length cap) q.p W (unhide HQ).z (unhide HQ).l (unhide HAB).2 (unhide HQ).i (unhide HQ).n (unhide HQK W kk) hpl)
  have HSA := hide (fun W (kk : Kept [] w4 W) => same12_any (.slice (some ⟨g, 0, none⟩) (q.p.length + 2) cap3) u4 F W ((unhide HO5).rd.old kk) ((unhide HRW).old kk))
  simp only [dinc_eq] at HIN
  generalize rootE q.z q.l q.i q.n q.p = E at HRO HDR
  generalize dincE q.z q.l q.i q.n q.p (rootD q.z q.l q.i q.n q.p) = I at HIN HDI
  generalize rootsE q.z q.l q.i q.n q.p = G at HRS HDS
  generalize conE q.z q.i q.n q.l (rootsD q.z q.l q.i q.n q.p).2 q.p = C at HCO HDC
  generalize rootD q.z q.l q.i q.n q.p = D at HRO HDR HIN HDI HDD
  generalize (rootsD q.z q.l q.i q.n q.p).1 = A at HRS HDS HAB
  generalize (rootsD q.z q.l q.i q.n q.p).2 = B at HRS HDS HCO HDC HAB
  have hdl := (unhide HDD).1
  have hal := (unhide HAB).1.1
  have hbl := (unhide HAB).2.1
  have hqD := fun W => dig_eq W D D hdl hdl
  have hqA := fun W => dig_eq W A A hal hal
  have hqB := fun W => dig_eq W B B hbl hbl
  rw [decide_eq_true rfl] at hqD hqA hqB
  have hc1 : (q.p.length : Int) ≤ cap3 := by omega
  have hc2 : q.p.length ≤ cap3 := by omega
  obtain ⟨c0, r1, ⟨c33, c34, c35⟩, r36⟩ := ask_cells (unhide HG4) hll
  have HR1 := hide r1
  clear r1 r36
  go_wp2_with fail
  clear c0 c33 c34 c35 HR1
  go_loopw [41] (fun t41 wr => ∃ (j : Nat), j ≤ 2 ∧ t41 = .int .i64 (j : Int) ∧ Hid (Kept [] w4 wr)) (fun t _ => 2 - (intOf t).toNat)
  case atStart => exact ⟨0, by omega, rfl, hide (Kept.refl _ _)⟩
  case round =>
    obtain ⟨j, hj, rfl, HKr⟩ := hrel
    by_cases hlt : j < 2
    · have hlt' : (j : Int) < 2 := by omega
      obtain ⟨c0, r1, ⟨c33, c34, c35⟩, r36⟩ := ask_cells (unhide HGK wr (unhide HKr)) hll
      have HR1 := hide r1
      clear r1 r36
      go_wp2_with (first
        | (refine wpList_load_mid rfl 23 _ rfl w.heap.size 1 rfl (q.l.map Go.Proofs.YtbljofojeagdkaaDoor.u8) _ (unhide HR1) Tryd.underlying23 rfl (unhide HSL) ?_))
      clear c0 c33 c34 c35 HR1
      refine (unhide HRO wr (unhide HKr)).mono ?_
      rintro e wa1 ⟨rfl, ka⟩
      have kab := ka.trans (kept_old wa1 D) (by simp)
      have HN1 := hide (cell_new wa1 D)
      have HKb1 := hide ((unhide HKr).trans kab (by simp))
      obtain ⟨wb1, hwb⟩ : ∃ wb, (wa1.alloc (.cells (zb 32) 23)).setRow wa1.heap.size (brow D) = wb := ⟨_, rfl⟩
      rw [hwb] at HN1 HKb1
      have HW1 := hide hwb
      clear ka kab hwb
      obtain ⟨c0, r1, ⟨c33, c34, c35⟩, r36⟩ := ask_cells (unhide HGK wb1 (unhide HKb1)) hll
      have HR1 := hide r1
      clear r1 r36
      go_wp2_with (first
        | (rw [zb32]; refine wpList_store_row rfl 23 (.tmp 8) _ rfl wa1.heap.size (brow D) rfl rfl _ (zb 32) (heap_alloc_new _ _) (Tryd.szD hdl) (by rw [zb_size, brow_size, hdl]) (brow_one _) ?_; rw [unhide HW1])
        | (refine wpList_load_mid rfl 23 _ rfl w.heap.size 1 rfl (q.l.map Go.Proofs.YtbljofojeagdkaaDoor.u8) _ (unhide HR1) Tryd.underlying23 rfl (unhide HSL) ?_))
      clear c0 c33 c34 c35 HR1
      refine (unhide HDR wb1 (unhide HKb1)).mono ?_
      rintro e wa2 ⟨rfl, ka⟩
      have kab := ka.trans (kept_old wa2 D) (by simp)
      have HN2 := hide (cell_new wa2 D)
      have HKb2 := hide ((unhide HKb1).trans kab (by simp))
      have HN1x2 := hide (kab.heap (unhide HN1) (by simp))
      obtain ⟨wb2, hwb⟩ : ∃ wb, (wa2.alloc (.cells (zb 32) 23)).setRow wa2.heap.size (brow D) = wb := ⟨_, rfl⟩
      rw [hwb] at HN2 HKb2 HN1x2
      have HW2 := hide hwb
      clear ka kab hwb
      obtain ⟨c0, r1, ⟨c33, c34, c35⟩, r36⟩ := ask_cells (unhide HGK wb2 (unhide HKb2)) hll
      have HR1 := hide r1
      clear r1 r36
      go_wp2_with (first
        | (rw [zb32]; refine wpList_store_row rfl 23 (.tmp 10) _ rfl wa2.heap.size (brow D) rfl rfl _ (zb 32) (heap_alloc_new _ _) (Tryd.szD hdl) (by rw [zb_size, brow_size, hdl]) (brow_one _) ?_; rw [unhide HW2])
        | (refine wpList_load_mid rfl 23 _ rfl w.heap.size 1 rfl (q.l.map Go.Proofs.YtbljofojeagdkaaDoor.u8) _ (unhide HR1) Tryd.underlying23 rfl (unhide HSL) ?_)
        | (refine wpList_load_row rfl 23 (.tmp 10) rfl wa2.heap.size rfl _ (brow D) (0, 0) _ (unhide HN2) Tryd.underlying23 rfl (Tryd.szD hdl) ?_))
      clear c0 c33 c34 c35 HR1
      refine (unhide HIN wb2 (unhide HKb2)).mono ?_
      rintro e w5 ⟨rfl, k5⟩
      have HK5 := hide ((unhide HKb2).trans k5 (by simp))
      have HN15 := hide (k5.heap (unhide HN1x2) (by simp))
      have HN25 := hide (k5.heap (unhide HN2) (by simp))
      clear k5 HN1 HN2 HN1x2 HKb1 HKb2
      obtain ⟨c0, r1, ⟨c33, c34, c35⟩, r36⟩ := ask_cells (unhide HGK w5 (unhide HK5)) hll
      have HR1 := hide r1
      clear r1 r36
      go_wp2_with (first
        | (refine wpList_load_mid rfl 23 _ rfl w.heap.size 1 rfl (q.l.map Go.Proofs.YtbljofojeagdkaaDoor.u8) _ (unhide HR1) Tryd.underlying23 rfl (unhide HSL) ?_))
      clear c0 c33 c34 c35 HR1
      refine (unhide HRS w5 (unhide HK5)).mono ?_
      rintro e wd3 ⟨rfl, kd⟩
      have HA3 := hide (((Kept.refl [] (wd3.alloc (.cells (zb 32) 23))).alloc (.cells (zb 32) 23)).heap (heap_alloc_new wd3 (.cells (zb 32) 23)) (by simp))
      have HB3 := hide ((setRow_other ((wd3.alloc (.cells (zb 32) 23)).alloc (.cells (zb 32) 23)) wd3.heap.size (wd3.heap.size + 1) (brow A) (by omega)).trans (alloc_at wd3 (.cells (zb 32) 23) (.cells (zb 32) 23)))
      have kab := ((((Kept.refl [] wd3).alloc (.cells (zb 32) 23)).alloc (.cells (zb 32) 23)).setRow (g := wd3.heap.size) (Or.inr (Nat.le_refl _)) (brow A)).setRow (g := wd3.heap.size + 1) (Or.inr (by omega)) (brow B)
      have HX3 := hide ((setRow_other (((wd3.alloc (.cells (zb 32) 23)).alloc (.cells (zb 32) 23)).setRow wd3.heap.size (brow A)) (wd3.heap.size + 1) wd3.heap.size (brow B) (by omega)).trans (setRow_heap _ _ _ (brow A) _ _ (unhide HA3)))
      have HY3 := hide (setRow_heap (((wd3.alloc (.cells (zb 32) 23)).alloc (.cells (zb 32) 23)).setRow wd3.heap.size (brow A)) _ _ (brow B) _ _ (unhide HB3))
      have kk := kd.trans kab (by simp)
      have HKb3 := hide ((unhide HK5).trans kk (by simp))
      have HN15x3 := hide (kk.heap (unhide HN15) (by simp))
      have HN25x3 := hide (kk.heap (unhide HN25) (by simp))
      obtain ⟨wb3, hwb⟩ : ∃ wb, (((wd3.alloc (.cells (zb 32) 23)).alloc (.cells (zb 32) 23)).setRow wd3.heap.size (brow A)).setRow (wd3.heap.size + 1) (brow B) = wb := ⟨_, rfl⟩
      rw [hwb] at HX3 HY3 HKb3 HN15x3 HN25x3
      have HW3 := hide hwb
      clear kd kab kk hwb
      obtain ⟨c0, r1, ⟨c33, c34, c35⟩, r36⟩ := ask_cells (unhide HGK wb3 (unhide HKb3)) hll
      have HR1 := hide r1
      clear r1 r36
      go_wp2_with (first
        | (rw [zb32]; refine wpList_store_row rfl 23 (.tmp 13) _ rfl wd3.heap.size (brow A) rfl rfl _ (zb 32) (unhide HA3) (Tryd.szD hal) (by rw [zb_size, brow_size, hal]) (brow_one _) ?_)
        | (refine wpList_store_row rfl 23 (.tmp 14) _ rfl (wd3.heap.size + 1) (brow B) rfl rfl _ (zb 32) (unhide HB3) (Tryd.szD hbl) (by rw [zb_size, brow_size, hbl]) (brow_one _) ?_; rw [unhide HW3])
        | (refine wpList_load_mid rfl 23 _ rfl w.heap.size 1 rfl (q.l.map Go.Proofs.YtbljofojeagdkaaDoor.u8) _ (unhide HR1) Tryd.underlying23 rfl (unhide HSL) ?_))
      clear c0 c33 c34 c35 HR1
      refine (unhide HDS wb3 (unhide HKb3)).mono ?_
      rintro e wd4 ⟨rfl, kd⟩
      have HA4 := hide (((Kept.refl [] (wd4.alloc (.cells (zb 32) 23))).alloc (.cells (zb 32) 23)).heap (heap_alloc_new wd4 (.cells (zb 32) 23)) (by simp))
      have HB4 := hide ((setRow_other ((wd4.alloc (.cells (zb 32) 23)).alloc (.cells (zb 32) 23)) wd4.heap.size (wd4.heap.size + 1) (brow A) (by omega)).trans (alloc_at wd4 (.cells (zb 32) 23) (.cells (zb 32) 23)))
      have kab := ((((Kept.refl [] wd4).alloc (.cells (zb 32) 23)).alloc (.cells (zb 32) 23)).setRow (g := wd4.heap.size) (Or.inr (Nat.le_refl _)) (brow A)).setRow (g := wd4.heap.size + 1) (Or.inr (by omega)) (brow B)
      have HX4 := hide ((setRow_other (((wd4.alloc (.cells (zb 32) 23)).alloc (.cells (zb 32) 23)).setRow wd4.heap.size (brow A)) (wd4.heap.size + 1) wd4.heap.size (brow B) (by omega)).trans (setRow_heap _ _ _ (brow A) _ _ (unhide HA4)))
      have HY4 := hide (setRow_heap (((wd4.alloc (.cells (zb 32) 23)).alloc (.cells (zb 32) 23)).setRow wd4.heap.size (brow A)) _ _ (brow B) _ _ (unhide HB4))
      have kk := kd.trans kab (by simp)
      have HKb4 := hide ((unhide HKb3).trans kk (by simp))
      have HN15x3x4 := hide (kk.heap (unhide HN15x3) (by simp))
      have HN25x3x4 := hide (kk.heap (unhide HN25x3) (by simp))
      have HX3x4 := hide (kk.heap (unhide HX3) (by simp))
      have HY3x4 := hide (kk.heap (unhide HY3) (by simp))
      obtain ⟨wb4, hwb⟩ : ∃ wb, (((wd4.alloc (.cells (zb 32) 23)).alloc (.cells (zb 32) 23)).setRow wd4.heap.size (brow A)).setRow (wd4.heap.size + 1) (brow B) = wb := ⟨_, rfl⟩
      rw [hwb] at HX4 HY4 HKb4 HN15x3x4 HN25x3x4 HX3x4 HY3x4
      have HW4 := hide hwb
      clear kd kab kk hwb
      obtain ⟨c0, r1, ⟨c33, c34, c35⟩, r36⟩ := ask_cells (unhide HGK wb4 (unhide HKb4)) hll
      have HR1 := hide r1
      clear r1 r36
      go_wp2_with (first
        | (rw [zb32]; refine wpList_store_row rfl 23 (.tmp 16) _ rfl wd4.heap.size (brow A) rfl rfl _ (zb 32) (unhide HA4) (Tryd.szD hal) (by rw [zb_size, brow_size, hal]) (brow_one _) ?_)
        | (refine wpList_store_row rfl 23 (.tmp 17) _ rfl (wd4.heap.size + 1) (brow B) rfl rfl _ (zb 32) (unhide HB4) (Tryd.szD hbl) (by rw [zb_size, brow_size, hbl]) (brow_one _) ?_; rw [unhide HW4])
        | (refine wpList_load_mid rfl 23 _ rfl w.heap.size 1 rfl (q.l.map Go.Proofs.YtbljofojeagdkaaDoor.u8) _ (unhide HR1) Tryd.underlying23 rfl (unhide HSL) ?_)
        | (refine wpList_load_row rfl 23 (.tmp 17) rfl (wd4.heap.size + 1) rfl _ (brow B) (0, 0) _ (unhide HY4) Tryd.underlying23 rfl (Tryd.szD hbl) ?_))
      clear c0 c33 c34 c35 HR1
      refine (unhide HCO wb4 (unhide HKb4)).mono ?_
      rintro e w8 ⟨rfl, k8⟩
      have HK8 := hide ((unhide HKb4).trans k8 (by simp))
      have HN18 := hide (k8.heap (unhide HN15x3x4) (by simp))
      have HN28 := hide (k8.heap (unhide HN25x3x4) (by simp))
      have HX38 := hide (k8.heap (unhide HX3x4) (by simp))
      have HY38 := hide (k8.heap (unhide HY3x4) (by simp))
      have HX48 := hide (k8.heap (unhide HX4) (by simp))
      have HY48 := hide (k8.heap (unhide HY4) (by simp))
      clear k8 HN15x3x4 HN25x3x4 HX3x4 HY3x4 HX4 HY4 HA3 HB3 HA4 HB4 HN15 HN25 HN15x3 HN25x3 HX3 HY3 HK5 HKb3 HKb4
      go_wp2_with (first
        | (refine wpList_load_row rfl 23 (.tmp 8) rfl wa1.heap.size rfl _ (brow D) (0, 0) _ (unhide HN18) Tryd.underlying23 rfl (Tryd.szD hdl) ?_)
        | (refine wpList_load_row rfl 23 (.tmp 10) rfl wa2.heap.size rfl _ (brow D) (0, 0) _ (unhide HN28) Tryd.underlying23 rfl (Tryd.szD hdl) ?_)
        | (refine wpList_load_rowG rfl 23 (.tmp 13) rfl wd3.heap.size rfl _ (brow A) (0, 0) _ (unhide HX38) Tryd.underlying23 rfl (Tryd.szD hal) ?_)
        | (refine wpList_load_rowG rfl 23 (.tmp 16) rfl wd4.heap.size rfl _ (brow A) (0, 0) _ (unhide HX48) Tryd.underlying23 rfl (Tryd.szD hal) ?_)
        | (refine wpList_load_rowG rfl 23 (.tmp 14) rfl (wd3.heap.size + 1) rfl _ (brow B) (0, 0) _ (unhide HY38) Tryd.underlying23 rfl (Tryd.szD hbl) ?_)
        | (refine wpList_load_rowG rfl 23 (.tmp 17) rfl (wd4.heap.size + 1) rfl _ (brow B) (0, 0) _ (unhide HY48) Tryd.underlying23 rfl (Tryd.szD hbl) ?_))
      refine (unhide HSA w8 (unhide HK8)).mono ?_
      rintro e w9 ⟨rfl, k9⟩
      have HK9 := hide ((unhide HK8).trans k9 (by simp))
      have HN29 := hide (k9.heap (unhide HN28) (by simp))
      have HY49 := hide (k9.heap (unhide HY48) (by simp))
      clear k9 HK8 HN18 HN28 HX38 HY38 HX48 HY48
      obtain ⟨c0, r1, ⟨c33, c34, c35⟩, r36⟩ := ask_cells (unhide HGK w9 (unhide HK9)) hll
      have HR1 := hide r1
      clear r1 r36
      go_wp2_with (first
        | (refine wpList_load_mid rfl 23 _ rfl w.heap.size 1 rfl (q.l.map Go.Proofs.YtbljofojeagdkaaDoor.u8) _ (unhide HR1) Tryd.underlying23 rfl (unhide HSL) ?_)
        | (refine wpList_load_row rfl 23 (.tmp 10) rfl wa2.heap.size rfl _ (brow D) (0, 0) _ (unhide HN29) Tryd.underlying23 rfl (Tryd.szD hdl) ?_))
      clear c0 c33 c34 c35 HR1
      refine (unhide HDI w9 (unhide HK9)).mono ?_
      rintro e w10 ⟨rfl, k10⟩
      have HK10 := hide ((unhide HK9).trans k10 (by simp))
      have HY410 := hide (k10.heap (unhide HY49) (by simp))
      clear k10 HK9 HN29 HY49
      obtain ⟨c0, r1, ⟨c33, c34, c35⟩, r36⟩ := ask_cells (unhide HGK w10 (unhide HK10)) hll
      have HR1 := hide r1
      clear r1 r36
      go_wp2_with (first
        | (refine wpList_load_midG rfl 23 _ rfl w.heap.size 1 rfl (q.l.map Go.Proofs.YtbljofojeagdkaaDoor.u8) _ (unhide HR1) Tryd.underlying23 rfl (unhide HSL) ?_)
        | (refine wpList_load_rowG rfl 23 (.tmp 17) rfl (wd4.heap.size + 1) rfl _ (brow B) (0, 0) _ (unhide HY410) Tryd.underlying23 rfl (Tryd.szD hbl) ?_))
      clear c0 c33 c34 c35 HR1
      refine (unhide HDC w10 (unhide HK10)).mono ?_
      rintro e w11 ⟨rfl, k11⟩
      have HK11 := hide ((unhide HK10).trans k11 (by simp))
      clear k11 HK10 HY410
      go_wp2_with fail
      go_roundw
      case rel => exact ⟨j + 1, by omega, by simp, HK11⟩
      case measure => simp [intOf]; omega
    · have hlt' : ¬ (j : Int) < 2 := by omega
      clear HRO HDR HIN HDI HRS HDS HCO HDC HSA hqD hqA hqB hdl hal hbl HDD HAB
      obtain ⟨m, wc, hrun, owc, hkc⟩ := copyD_any wr w1.heap.size g q.p.length cap3 F os oa os.length oc 3 (by have h9 := ((unhide HO5).pass (unhide HKr)).own; rw [hFl] at h9 ⊢; exact h9) (by omega) ((unhide HOV).old ((unhide HK1).trans ((unhide HK4).trans (unhide HKr) (by simp)) (by simp))) (unhide HO5).dg
      have HKc := hide (hkc w1 ((unhide HK4).trans (unhide HKr) (by simp)) hgw)
      obtain ⟨N, hN⟩ : ∃ N, (cpD F os q.p.length).take q.p.length = N := ⟨_, rfl⟩
      have hcl := cpD_len (full := F) (other := os) (n := q.p.length) (by omega)
      have hNl : N.length = q.p.length := by rw [← hN, List.length_take, hcl]; omega
      have HPN := hide (by
        have h9 := (rdd_owns (by rw [← hcl] at owc; exact owc) (cpD_dg (unhide HO5).dg (fun d hd => (unhide HOV).dg hd))).upto q.p.length (by omega)
        rw [hN] at h9
        exact h9 : RdD wc (.slice (some ⟨g, 0, none⟩) q.p.length cap3) N)
      clear owc hkc hN hcl
      go_wp2_with fail
      clear hrun
      refine (twinD_any _ N wc (unhide HPN) (by omega)).mono ?_
      rintro e wt ⟨u9, rfl, rd9, k9, _⟩
      have HKt := hide ((unhide HKc).trans k9 (by simp))
      have HPt := hide ((unhide HPN).old k9)
      have HRt := hide rd9
      clear rd9 k9 HPN HKc
      have HTt := hide (fun W (kk : Kept [] wt W) => (unhide HT).k ((unhide HK1).trans ((unhide HKt).trans kk (by simp)) (by simp)))
      have HGt := hide (fun W (kk : Kept [] wt W) => ((unhide HKt).trans kk (by simp)).heap (unhide HG1) (by simp))
      have HD2 := hide (rootD_dg (z := q.z) (i := q.i) (n := q.n) (p := N) (unhide HQ).l)
      have HR2 := hide (fun W (kk : Kept [] wt W) => rootOf_any q.z q.l q.i q.n (.slice (some ⟨g, 0, none⟩) q.p.length cap3) N W (unhide HQ).z (unhide HQ).l (unhide HQ).i (unhide HQ).n ((unhide HPt).old kk) (unhide HTt W kk))
      have HR3 := hide (fun W (kk : Kept [] wt W) => docRootOf_any q.z q.l q.i q.n u9 N W (unhide HQ).z (unhide HQ).l (unhide HQ).i (unhide HQ).n ((unhide HRt).old kk) (by omega))
      have HS2 := hide (fun W (kk : Kept [] wt W) => same12_any (.slice (some ⟨g, 0, none⟩) q.p.length cap3) u9 N W ((unhide HPt).old kk) ((unhide HRt).old kk))
      have HZ := hide (fun (h9 : rootE q.z q.l q.i q.n N ≠ 0) => (by unfold rootD; exact if_neg h9 : rootD q.z q.l q.i q.n N = zD))
      generalize rootE q.z q.l q.i q.n N = E2 at HR2 HR3 HZ
      generalize rootD q.z q.l q.i q.n N = D2 at HR2 HR3 HZ HD2
      have hd2 := (unhide HD2).1
      have hq2 := fun W => dig_eq W D2 D2 hd2 hd2
      rw [decide_eq_true rfl] at hq2
      have HKz := hide (Kept.refl [] wt)
      obtain ⟨c0, r1, ⟨c33, c34, c35⟩, r36⟩ := ask_cells (unhide HGt wt (unhide HKz)) hll
      have HR1 := hide r1
      clear r1 r36
      go_wp2_with (first
        | (refine wpList_load_mid rfl 23 _ rfl w.heap.size 1 rfl (q.l.map Go.Proofs.YtbljofojeagdkaaDoor.u8) _ (unhide HR1) Tryd.underlying23 rfl (unhide HSL) ?_))
      clear c0 c33 c34 c35 HR1
      refine (unhide HR2 wt (unhide HKz)).mono ?_
      rintro e wa5 ⟨rfl, ka⟩
      have kab := ka.trans (kept_old wa5 D2) (by simp)
      have HN5 := hide (cell_new wa5 D2)
      have HKb5 := hide ((unhide HKz).trans kab (by simp))
      obtain ⟨wb5, hwb⟩ : ∃ wb, (wa5.alloc (.cells (zb 32) 23)).setRow wa5.heap.size (brow D2) = wb := ⟨_, rfl⟩
      rw [hwb] at HN5 HKb5
      have HW5 := hide hwb
      clear ka kab hwb
      obtain ⟨c0, r1, ⟨c33, c34, c35⟩, r36⟩ := ask_cells (unhide HGt wb5 (unhide HKb5)) hll
      have HR1 := hide r1
      clear r1 r36
      go_wp2_with (first
        | (rw [zb32]; refine wpList_store_row rfl 23 (.tmp 21) _ rfl wa5.heap.size (brow D2) rfl rfl _ (zb 32) (heap_alloc_new _ _) (Tryd.szD hd2) (by rw [zb_size, brow_size, hd2]) (brow_one _) ?_; rw [unhide HW5])
        | (refine wpList_load_mid rfl 23 _ rfl w.heap.size 1 rfl (q.l.map Go.Proofs.YtbljofojeagdkaaDoor.u8) _ (unhide HR1) Tryd.underlying23 rfl (unhide HSL) ?_))
      clear c0 c33 c34 c35 HR1
      refine (unhide HR3 wb5 (unhide HKb5)).mono ?_
      rintro e wa6 ⟨rfl, ka⟩
      have kab := ka.trans (kept_old wa6 D2) (by simp)
      have HN6 := hide (cell_new wa6 D2)
      have HKb6 := hide ((unhide HKb5).trans kab (by simp))
      have HN5x6 := hide (kab.heap (unhide HN5) (by simp))
      obtain ⟨wb6, hwb⟩ : ∃ wb, (wa6.alloc (.cells (zb 32) 23)).setRow wa6.heap.size (brow D2) = wb := ⟨_, rfl⟩
      rw [hwb] at HN6 HKb6 HN5x6
      have HW6 := hide hwb
      clear ka kab hwb
      go_wp2_with (first
        | (rw [zb32]; refine wpList_store_row rfl 23 (.tmp 23) _ rfl wa6.heap.size (brow D2) rfl rfl _ (zb 32) (heap_alloc_new _ _) (Tryd.szD hd2) (by rw [zb_size, brow_size, hd2]) (brow_one _) ?_; rw [unhide HW6])
        | (refine wpList_load_row rfl 23 (.tmp 21) rfl wa5.heap.size rfl _ (brow D2) (0, 0) _ (unhide HN5x6) Tryd.underlying23 rfl (Tryd.szD hd2) ?_)
        | (refine wpList_load_row rfl 23 (.tmp 23) rfl wa6.heap.size rfl _ (brow D2) (0, 0) _ (unhide HN6) Tryd.underlying23 rfl (Tryd.szD hd2) ?_))
      refine (unhide HS2 wb6 (unhide HKb6)).mono ?_
      rintro e we ⟨rfl, ke⟩
      have HNe := hide (ke.heap (unhide HN5x6) (by simp))
      have HKe := hide ((unhide HK1).trans ((unhide HKt).trans ((unhide HKb6).trans ke (by simp)) (by simp)) (by simp))
      clear ke
      by_cases hE0 : E2 = 0
      · have hE0' : (E2 : Int) = 0 := by omega
        clear hE0
        go_wp2_with fail
        go_ret
        exact ⟨rfl, unhide HKe⟩
      · have hE0' : ¬ (E2 : Int) = 0 := by omega
        have hDz := unhide HZ hE0
        subst hDz
        have hqz : ∀ W, (Op.equalIn 10000 23 (.agg (brow zD)) (.agg (zb 32))).run Tryd.prog W = .ok true W := fun W => hq2 W
        rw [← zb32] at hqz
        have hEb : ((E2 : Int) == 0) = false := by simp; omega
        clear hE0
        go_wp2_with (first
          | simp only [hEb]
          | (refine wpList_load_rowG rfl 23 (.tmp 21) rfl wa5.heap.size rfl _ (brow zD) (0, 0) _ (unhide HNe) Tryd.underlying23 rfl (Tryd.szD hd2) ?_))
        go_ret
        exact ⟨rfl, unhide HKe⟩

theorem mcheckKeeps_walk (q : AskD) (pv ov : Value) (os : List (List Nat)) (w : World) (hq : OkA w q pv) (ho : RdD w ov os) (hos : os.length ≤ 1048576) (hT : Tabs w) :
    Calls Tryd.prog 3 #[.agg (askC q pv).toArray, ov] w fun e w' => e = .returned (.bool true) ∧ Below w.heap.size w w' :=
  (mcheckKeeps_go q pv ov os w hq ho hT).mono fun e w' h9 => ⟨h9.1, h9.2.below (Nat.le_refl _) (by simp)⟩
end Go.Proofs.YtbljofojeagdkaaDoor
