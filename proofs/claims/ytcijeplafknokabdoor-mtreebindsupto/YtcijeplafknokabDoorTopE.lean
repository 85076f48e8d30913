import Derived.Test.YtcijeplafknokabDoorTopD
import Derived.Test.YtcijeplafknokabDoorBase
import Derived.Test.YtcijeplafknokabDoorCards
import Derived.Test.YtcijeplafknokabDoorTie
import Derived.ProofKit
import Derived.OpenShut
import Derived.Deep.Slices
import Derived.SizedLaws
import Derived.Test.YtcijeplafknokabDoorTopC
import Derived.Test.YtcijeplafknokabDoorRowz
import Derived.Test.YtcijeplafknokabDoorDForm
namespace Go.Proofs.YtcijeplafknokabDoor
open Go.RowKit Go.BigFrame
set_option linter.unusedVariables false
set_option linter.unusedSimpArgs false

def d7 : List Nat := 7 :: List.replicate 31 0
def d9 : List Nat := 9 :: List.replicate 31 0
theorem d7_dg : Dg d7 := ⟨rfl, by decide⟩
theorem d9_dg : Dg d9 := ⟨rfl, by decide⟩
theorem d79_form : [d7, d9].all (formB 1) = true := by decide +kernel
theorem rg79 : rgD 1 [d7, d9] 0 2 = nodS 1 d7 d9 := by
  unfold rgD
  rw [if_neg (by decide)]
  rw [rngD_cut (by decide) (by decide)]
  rfl

set_option maxRecDepth 100000 in
set_option maxHeartbeats 1000000 in
theorem mtawake_any (w : World) (hT : Tabs w) (h6 : Tab6 w) :
    Calls Tryd.prog 5 #[] w fun e w' => e = .returned (.bool true) ∧ Kept [] w w' := by
  have HTB := hide hT
  have H6 := hide h6
  clear hT h6
  go_enter Tryd.func5, Tryd.ntmps5
  go_wp2_with fail
  refine (newT_any 1 w (by decide)).mono ?_
  rintro e w1 ⟨t, rfl, ht, htr, k1⟩
  have HT1 := hide htr
  have HK1 := hide k1
  clear htr k1 ht
  go_wp2_with fail
  have HG := hide (heap_alloc_new w1 (.cells (d7.map Go.Proofs.YtcijeplafknokabDoor.u8 ++ d9.map Go.Proofs.YtcijeplafknokabDoor.u8).toArray 29))
  have kA := (Kept.refl [] w1).alloc (.cells (d7.map Go.Proofs.YtcijeplafknokabDoor.u8 ++ d9.map Go.Proofs.YtcijeplafknokabDoor.u8).toArray 29)
  have kB := (unhide HK1).trans kA (by simp)
  refine Calls.mono (appendT_any 1 t (.slice none 0 0) (.slice (some ⟨w1.heap.size, 0, none⟩) 2 2) [] [d7, d9] (w1.alloc (.cells (d7.map Go.Proofs.YtcijeplafknokabDoor.u8 ++ d9.map Go.Proofs.YtcijeplafknokabDoor.u8).toArray 29)) ((unhide HT1).old kA) (fun _ => rfl) (RdD.two (unhide HG) d7_dg.1 d9_dg.1 d7_dg.2 d9_dg.2) (by decide) ((unhide HTB).kept kB (by simp) (by simp)) ((unhide H6).kept kB)) ?_
  rintro e w2 ⟨ha, _, k2⟩
  obtain ⟨t2, v2, qs, rfl, ht2, htr2, hlv, _⟩ := ha d79_form
  have hlv2 : leavesK qs = [d7, d9] := hlv
  have HT2 := hide htr2
  have HT1b := hide (((unhide HT1).old kA).old k2)
  have HK2 := hide (kB.trans k2 (by simp))
  have HLV := hide hlv2
  clear htr2 k2 ha hlv hlv2 HG kA kB HK1 HT1 ht2
  have HL1 := hide (by rw [unhide HLV]; rfl : ((leavesK qs).length : Int) = 2)
  have HB := hide (by rw [unhide HLV]; decide : (leavesK qs).length < 4096)
  go_wp2_with fail
  refine (sizeT_any t2 1 v2 qs w2 (unhide HT2)).mono ?_
  rintro e _ ⟨rfl, rfl⟩
  rw [unhide HL1]
  go_wp2_with fail
  refine (sizeT_any t 1 (.slice none 0 0) [] _ (unhide HT1b)).mono ?_
  rintro e _ ⟨rfl, rfl⟩
  rw [show ((leavesK []).length : Int) = 0 from rfl]
  go_wp2_with fail
  refine (widthT_any t2 1 v2 qs _ (unhide HT2)).mono ?_
  rintro e _ ⟨rfl, rfl⟩
  go_wp2_with fail
  refine (leafT_all 1 t2 v2 qs 1 _ (unhide HT2) (unhide HB)).mono ?_
  rintro e w3 ⟨rfl, k3⟩
  rw [show lfD (leavesK qs) 1 = d9 from by rw [unhide HLV]; rfl, show lfE (leavesK qs) 1 = 0 from by rw [unhide HLV]; rfl]
  have HT3 := hide ((unhide HT2).old k3)
  have HK3 := hide ((unhide HK2).trans k3 (by simp))
  clear k3 HT2 HT1b HK2
  have HN3 := hide (cell_new w3 d9)
  have HO3 := hide (kept_old w3 d9)
  have h9l : d9.length = 32 := rfl
  go_wp2_with (rw [zb32]; refine wpList_store_row rfl 29 (.tmp 5) _ rfl w3.heap.size (brow d9) rfl rfl _ (zb 32) (heap_alloc_new _ _) (Tryd.szD h9l) rfl (brow_one _) ?_)
  obtain ⟨w4, hw4⟩ : ∃ w4, (w3.alloc (.cells (zb 32) 29)).setRow w3.heap.size (brow d9) = w4 := ⟨_, rfl⟩
  rw [hw4] at HN3 HO3 ⊢
  clear hw4
  have HT4 := hide ((unhide HT3).old (unhide HO3))
  have HK4 := hide ((unhide HK3).trans (unhide HO3) (by simp))
  refine (rootT_all 1 t2 v2 qs 2 _ (unhide HT4) (unhide HB) ((unhide HTB).kept (unhide HK4) (by simp) (by simp)) ((unhide H6).kept (unhide HK4))).mono ?_
  rintro e w5 ⟨rfl, k5⟩
  rw [show rgD 1 (leavesK qs) 0 2 = nodS 1 d7 d9 from by rw [unhide HLV]; exact rg79, show rgE (leavesK qs) 0 2 = 0 from by rw [unhide HLV]; rfl]
  have HR := hide (fun W => refNode_any 1 d7 d9 W (by omega) d7_dg d9_dg)
  have hnl := (nodS_dg 1 d7 d9).1
  have HR2 := hide (fun W => (unhide HR W : Calls Tryd.prog 17 #[.int .i64 1, .agg (brow d7), .agg (brow d9)] W fun e w' => e = .returned (.agg (brow (nodS 1 d7 d9))) ∧ Kept [] W w'))
  generalize nodS 1 d7 d9 = D at HR2 hnl ⊢
  have HN5 := hide (k5.heap (unhide HN3) (by simp))
  have HK5 := hide ((unhide HK4).trans k5 (by simp))
  clear k5 HR HN3 HO3 HT3 HT4 HK4
  have HN6 := hide (cell_new w5 D)
  have HO6 := hide (kept_old w5 D)
  go_wp2_with (rw [zb32]; refine wpList_store_row rfl 29 (.tmp 7) _ rfl w5.heap.size (brow D) rfl rfl _ (zb 32) (heap_alloc_new _ _) (Tryd.szD hnl) (by rw [zb_size, brow_size, hnl]) (brow_one _) ?_)
  obtain ⟨w6, hw6⟩ : ∃ w6, (w5.alloc (.cells (zb 32) 29)).setRow w5.heap.size (brow D) = w6 := ⟨_, rfl⟩
  rw [hw6] at HN6 HO6 ⊢
  clear hw6
  have HM6 := hide ((unhide HO6).heap (unhide HN5) (by simp))
  have HK6 := hide ((unhide HK5).trans (unhide HO6) (by simp))
  clear HN5 HK5 HO6
  have hne : ∀ p : Prop, (∀ w', Kept [] w6 w' → p) = p := fun p => propext ⟨fun h => h w6 (Kept.refl [] w6), fun h _ _ => h⟩
  refine wp_region_keep (by kernel_rfl) (by kernel_rfl) ?_
  iterate 3 (go_big_quiet_step (fail))
  have HCT := hide (fun w' (hw' : Kept [] w6 w') => (unhide HR2 w').mono (fun e w2 (h2 : _ ∧ _) => (⟨h2.1, hw'.trans h2.2 (by simp)⟩ : _ ∧ Kept [] w6 w2)))
  refine wpQuiet_row rfl 29 (.tmp 5) rfl w3.heap.size rfl _ (brow d9) (0, 0) _ (fun w' hw' => hw'.heap (unhide HM6) (by simp)) Tryd.underlying29 rfl (Tryd.szD h9l) ?_
  simp only [Act.put, List.setIfInBounds_toArray, List.set_cons_succ, List.set_cons_zero]
  go_big_quiet_step (fail)
  refine wpQuiet_val rfl (.bool true) (fun w' _ => run_eql 29 (.tmp 61) (.tmp 62) 29 rfl (brow d9) (brow d9) rfl rfl w' true (by kernel_rfl) (by rw [dig_eq w' d9 d9 rfl rfl]; simp)) ?_
  simp only [Act.put, List.setIfInBounds_toArray, List.set_cons_succ, List.set_cons_zero]
  iterate 6 (go_big_quiet_step (fail))
  refine wpQuiet_row rfl 29 (.tmp 7) rfl w5.heap.size rfl _ (brow D) (0, 0) _ (fun w' hw' => hw'.heap (unhide HN6) (by simp)) Tryd.underlying29 rfl (Tryd.szD hnl) ?_
  simp only [Act.put, List.setIfInBounds_toArray, List.set_cons_succ, List.set_cons_zero]
  iterate 2 (go_big_quiet_step (fail))
  go_big_quiet_want
  go_big_quiet_op
  apply Exists.intro
  refine ⟨fun w' hw' => ?_, ?_⟩
  · exact unhide HCT w' hw'
  go_big_quiet_on
  refine wpQuiet_val rfl (.bool true) (fun w' _ => run_eql 29 (.tmp 70) (.tmp 73) 29 rfl (brow D) (brow D) rfl rfl w' true (by kernel_rfl) (by rw [dig_eq w' D D hnl hnl]; simp)) ?_
  simp only [Act.put, List.setIfInBounds_toArray, List.set_cons_succ, List.set_cons_zero]
  repeat (go_big_quiet_step (fail))
  refine wpQuiet_nil ?_
  intro w7 hw7
  have HK7 := hide ((unhide HK6).trans hw7 (by simp))
  clear hw7 hne
  go_wp2_with fail
  go_ret
  exact ⟨rfl, unhide HK7⟩
end Go.Proofs.YtcijeplafknokabDoor
namespace Go.Proofs.YtcijeplafknokabDoor
open Go.RowKit Go.BigFrame
set_option linter.unusedVariables false
set_option linter.unusedSimpArgs false

end Go.Proofs.YtcijeplafknokabDoor
namespace Go.Proofs.YtcijeplafknokabDoor
open Go.RowKit Go.BigFrame
set_option linter.unusedVariables false
set_option linter.unusedSimpArgs false

/-- Are the width and all leaves fit? -/
def fitB (z : Int) (ls : List (List Nat)) : Bool := widthB z && ls.all (formB z)

set_option maxRecDepth 100000 in
set_option maxHeartbeats 1000000 in
theorem fit_any (z : Int) (lv : Value) (ls : List (List Nat)) (w : World) (hz : -9223372036854775808 ≤ z ∧ z ≤ 9223372036854775807) (hl : RdD w lv ls) :
    Calls Tryd.prog 7 #[.int .i64 z, lv] w fun e w' => e = .returned (.bool (fitB z ls)) ∧ Kept [] w w' := by
  have HL := hide hl
  obtain ⟨ao, len, cap, rfl, h1, h2, h3, h4, h5⟩ := hl
  subst h1
  clear h4 h5
  obtain ⟨E, hE⟩ : ∃ E, fitB z ls = E := ⟨_, rfl⟩
  rw [hE]
  have HE := hide hE
  clear hE
  go_enter Tryd.func7, Tryd.ntmps7
  go_wp2_with fail
  refine (rwidth_any z w hz).mono ?_
  rintro e w0 ⟨rfl, rfl⟩
  cases hwd : widthB z with
  | false =>
    have HE1 := hide (by rw [← unhide HE]; unfold fitB; rw [hwd]; rfl : E = false)
    go_wp2_with fail
    go_ret
    exact ⟨by rw [unhide HE1]; rfl, Kept.refl _ _⟩
  | true =>
    have HWD := hide hwd
    clear hwd
    go_wp2_with fail
    go_loopw [12] (fun t12 wr => ∃ (i : Nat), i ≤ ls.length ∧ t12 = .int .i64 i ∧ Hid ((ls.take i).all (formB z) = true) ∧ Hid (Kept [] w0 wr)) (fun t _ => ls.length - (intOf t).toNat)
    case atStart => exact ⟨0, Nat.zero_le _, rfl, hide (by simp), hide (Kept.refl _ _)⟩
    case round =>
      obtain ⟨j, hj, rfl, HAJ, HKJ⟩ := hrel
      by_cases hjl : j < ls.length
      · have hjl' : (j : Int) < ls.length := by omega
        obtain ⟨ra, rl, rc, re, r1, r2, r3, r4, r5⟩ := unhide HL
        cases re
        obtain ⟨b, o, rfl, hcell⟩ := r5 (by omega)
        have HD := hide (r4 (ls.getD j []) (by rw [List.getD_eq_getElem?_getD, List.getElem?_eq_getElem hjl]; exact List.getElem_mem hjl))
        have HRG := hide (fun u v hv => (unhide HKJ).cell (hcell j hjl u v hv) (by simp) : wr.rangeAt b (o + j * 32) ((ls.getD j []).map Go.Proofs.YtcijeplafknokabDoor.u8))
        have HN := hide (by rw [List.take_succ_eq_append_getElem hjl, List.all_append, unhide HAJ, List.getD_eq_getElem?_getD, List.getElem?_eq_getElem hjl]; simp : (ls.take (j + 1)).all (formB z) = formB z (ls.getD j []))
        have HM := hide (fun (h : formB z (ls.getD j []) = false) => by
          have h9 : ls.all (formB z) = false := by
            rw [List.all_eq_false]
            exact ⟨ls.getD j [], by rw [List.getD_eq_getElem?_getD, List.getElem?_eq_getElem hjl]; exact List.getElem_mem hjl, by rw [h]; decide⟩
          rw [← unhide HE]; unfold fitB; rw [h9, Bool.and_false] : formB z (ls.getD j []) = false → E = false)
        clear hcell r4 r5
        obtain ⟨d, hd⟩ : ∃ d, ls.getD j [] = d := ⟨_, rfl⟩
        rw [hd] at HD HRG HN HM
        clear hd
        have hdl := (unhide HD).1
        have HSZ := hide (by rw [brow_size, hdl]; exact Tryd.size_dig : (Tryd.prog.info? 29).map (·.size) = some (brow d).size)
        have HNW := hide (setRow_heap (wr.alloc (.cells (zb 32) 29)) wr.heap.size (zb 32) (brow d) 29 (0, 0) (heap_alloc_new _ _))
        have HKN := hide (((unhide HKJ).alloc (.cells (zb 32) 29)).setRow (g := wr.heap.size) (Or.inr (unhide HKJ).size) (brow d))
        go_wp2_with (first
          | (refine wpList_load_mid rfl 29 (.tmp 14) rfl b (o + j * 32) rfl (d.map Go.Proofs.YtcijeplafknokabDoor.u8) _ (unhide HRG) Tryd.underlying29 rfl (by rw [List.length_map, hdl]; exact Tryd.size_dig) ?_)
          | (rw [zb32]; refine wpList_store_row rfl 29 (.tmp 6) _ rfl wr.heap.size (brow d) rfl rfl _ (zb 32) (heap_alloc_new _ _) (unhide HSZ) (by rw [zb_size, brow_size, hdl]) (brow_one _) ?_)
          | (refine wpList_load_row rfl 29 (.tmp 6) rfl wr.heap.size rfl _ (brow d) (0, 0) _ (unhide HNW) Tryd.underlying29 rfl (unhide HSZ) ?_))
        refine Calls.mono (docForm_any z d _ hz hdl (unhide HD).2) ?_
        rintro e w4 ⟨rfl, k4⟩
        have HK4 := hide ((unhide HKN).trans k4 (by simp))
        clear k4
        cases hf : formB z d with
        | true =>
          rw [hf] at HN
          clear hf
          go_wp2
          go_roundw
          case rel => exact ⟨j + 1, by omega, by go_num, HN, HK4⟩
          case measure => simp [intOf]; omega
        | false =>
          have HF := hide (unhide HM hf)
          clear hf
          go_wp2
          go_ret
          exact ⟨by rw [unhide HF]; rfl, unhide HK4⟩
      · have hjl' : ¬ (j : Int) < ls.length := by omega
        have hje : j = ls.length := by omega
        subst hje
        rw [List.take_length] at HAJ
        have HE1 := hide (by rw [← unhide HE]; unfold fitB; rw [unhide HWD, unhide HAJ]; rfl : E = true)
        go_wp2
        go_ret
        exact ⟨by rw [unhide HE1]; rfl, unhide HKJ⟩

theorem newT_all (z : Int) (w : World) :
    Calls Tryd.prog 14 #[.int .i64 z] w fun e w' => ∃ p er, e = .returned (.tuple #[.pointer p, .int .i64 er]) ∧ (widthB z = true → ∃ t, p = some ⟨t, 0, none⟩ ∧ TreeAt z w' t (.slice none 0 0) []) ∧ Kept [] w w' := by
  cases hw : widthB z with
  | false => exact (newT_bad z w hw).mono fun e w' h => ⟨_, _, h.1, fun h9 => by simp at h9, h.2⟩
  | true => exact (newT_any z w hw).mono fun e w' ⟨t, h1, _, h2, h3⟩ => ⟨_, _, h1, fun _ => ⟨t, rfl, h2⟩, h3⟩

/-- What grown answers. -/
def GrD (z : Int) (ls : List (List Nat)) (w : World) (e : Ending) (w' : World) : Prop :=
  (fitB z ls = true ∧ ls.length ≤ 400 → ∃ t v qs, e = .returned (.tuple #[.pointer (some ⟨t, 0, none⟩), .bool true]) ∧ TreeAt z w' t v qs ∧ leavesK qs = ls ∧ (qs = [] → v = .slice none 0 0)) ∧
  (¬ (fitB z ls = true ∧ ls.length ≤ 400) → e = .returned (.tuple #[.pointer none, .bool false])) ∧ Kept [] w w'

set_option maxRecDepth 100000 in
set_option maxHeartbeats 1000000 in
theorem grown_any (z : Int) (lv : Value) (ls : List (List Nat)) (st : Nat) (w : World) (hz : -9223372036854775808 ≤ z ∧ z ≤ 9223372036854775807) (hst : 1 ≤ st ∧ st ≤ 1000) (hl : RdD w lv ls) (hT : Tabs w) (h6 : Tab6 w) :
    Calls Tryd.prog 6 #[.int .i64 z, lv, .int .i64 st] w (GrD z ls w) := by
  have HL := hide hl
  have HTB := hide hT
  have H6 := hide h6
  obtain ⟨ao, len, cap, rfl, h1, h2, h3, h4, h5⟩ := hl
  subst h1
  clear h4 h5 hT h6
  go_enter Tryd.func6, Tryd.ntmps6
  go_wp2_with fail
  refine (newT_all z w).mono ?_
  rintro e w1 ⟨p, er, rfl, hp, k1⟩
  have HP := hide hp
  have HK1 := hide k1
  clear hp k1
  by_cases h400 : 400 < ls.length
  · have h400' : (400 : Int) < ls.length := by omega
    go_wp2_with fail
    exact bodyPost_ret (results_tmp2 rfl _ _ _) rfl ⟨fun h => by omega, fun _ => rfl, unhide HK1⟩
  · have h400' : ¬ (400 : Int) < ls.length := by omega
    go_wp2_with fail
    refine (fit_any z (.slice ao ls.length cap) ls w1 hz ((unhide HL).old (unhide HK1))).mono ?_
    rintro e w2 ⟨rfl, k2⟩
    have HK2 := hide ((unhide HK1).trans k2 (by simp))
    cases hfit : fitB z ls with
    | false =>
      clear k2
      go_wp2_with fail
      exact bodyPost_ret (results_tmp2 rfl _ _ _) rfl ⟨fun h => by rw [hfit] at h; simp at h, fun _ => rfl, unhide HK2⟩
    | true =>
      have hfit2 := hfit
      unfold fitB at hfit2
      rw [Bool.and_eq_true] at hfit2
      obtain ⟨t0, rfl, htr⟩ := unhide HP hfit2.1
      have HT0 := hide (htr.old k2)
      have HALL := hide hfit2.2
      have HFIT := hide hfit
      clear k2 hfit hfit2 htr HP
      go_wp2_with fail
      go_loopw [8, 10] (fun t8 t10 wr => ∃ (at_ t : Nat) (v : Value) (qs : List Pk), t8 = .pointer (some ⟨t, 0, none⟩) ∧ t10 = .int .i64 (at_ : Int) ∧ at_ ≤ 2000 ∧ Hid (TreeAt z wr t v qs) ∧ Hid (leavesK qs = ls.take at_) ∧ Hid (qs = [] → v = .slice none 0 0) ∧ Hid (Kept [] w wr)) (fun _ t _ => ls.length - (intOf t).toNat)
      case atStart => exact ⟨0, t0, _, [], rfl, rfl, by omega, HT0, hide rfl, hide (fun _ => rfl), HK2⟩
      case round =>
        obtain ⟨at_, t, v, qs, rfl, rfl, hat, HT, HLV, HNL, HKR⟩ := hrel
        by_cases hlt : at_ < ls.length
        · have hlt' : (at_ : Int) < ls.length := by omega
          obtain ⟨hi, hhi⟩ : ∃ hi, min (at_ + st) ls.length = hi := ⟨_, rfl⟩
          have hmin : min ((at_ : Int) + (st : Int)) (ls.length : Int) = (hi : Int) := by omega
          have hh1 : at_ ≤ hi ∧ hi ≤ ls.length := by omega
          have HPC := hide (fun (ao' : Option Addr) (ho : at_ < hi → ∀ b off, ao = some ⟨b, off, none⟩ → ao' = some ⟨b, off + at_ * 32, none⟩) => (RdD.piece (c' := cap - at_) (unhide HL) hh1.1 hh1.2 (by omega) ao' ho).old (unhide HKR))
          have HPF := hide (List.all_eq_true.2 (fun d hd => List.all_eq_true.1 (unhide HALL) d (List.mem_of_mem_drop (List.mem_of_mem_take hd))) : ((ls.drop at_).take (hi - at_)).all (formB z) = true)
          have HTK := hide (by
            have e1 : ls.take (at_ + st) = ls.take hi := by
              rcases Nat.le_total (at_ + st) ls.length with h9 | h9
              · rw [show hi = at_ + st by omega]
              · rw [List.take_of_length_le h9, List.take_of_length_le (by omega)]
            rw [e1]
            have e2 : hi = at_ + (hi - at_) := by omega
            conv => rhs; rw [e2, List.take_add]
            : ls.take at_ ++ (ls.drop at_).take (hi - at_) = ls.take (at_ + st))
          have HLN := hide (by rw [unhide HLV, List.length_take, List.length_take]; omega : (leavesK qs).length + ((ls.drop at_).take (hi - at_)).length ≤ 1000000000)
          have q1 : ¬ (hi : Int) < at_ := by omega
          have q2 : ¬ (cap : Int) < hi := by omega
          have q3 : ¬ cap = at_ := by omega
          have q4 : ¬ at_ = cap := by omega
          have q5 : ¬ (cap : Int) = at_ := by omega
          have q6 : ¬ (hi : Int) < 0 := by omega
          have w1' : IntKind.i64.wrap ((at_ : Int) + (st : Int)) = (at_ : Int) + (st : Int) := by simp [IntKind.wrap, IntKind.signed, IntKind.bits]; omega
          go_wp2_with (simp only [hmin])
          refine (appendT_any z t v (.slice (Option.map (fun x => x.add (at_ * 32)) ao) (hi - at_) (cap - at_)) qs ((ls.drop at_).take (hi - at_)) wr (unhide HT) (unhide HNL) (unhide HPC _ (fun _ b off e => by rw [e]; simp [Addr.add_mid])) (unhide HLN) ((unhide HTB).kept (unhide HKR) (by simp) (by simp)) ((unhide H6).kept (unhide HKR))).mono ?_
          rintro e w4 ⟨ha, _, k4⟩
          obtain ⟨t2, v2, rs, rfl, _, htr2, hlv2, hnl2⟩ := ha (unhide HPF)
          have HT2 := hide htr2
          have HLV2 := hide (by rw [hlv2, unhide HLV]; exact unhide HTK : leavesK rs = ls.take (at_ + st))
          have HNL2 := hide hnl2
          have HKR2 := hide ((unhide HKR).trans k4 (by simp))
          clear htr2 hlv2 hnl2 k4 ha HT HLV HNL HKR HPC HPF HTK HLN
          go_wp2_with fail
          refine ⟨⟨at_ + st, t2, v2, rs, rfl, by simp, by omega, HT2, HLV2, HNL2, HKR2⟩, ?_⟩
          simp [intOf]
          omega
        · have hlt' : ¬ (at_ : Int) < ls.length := by omega
          have HLV2 := hide (by rw [unhide HLV, List.take_of_length_le (by omega)] : leavesK qs = ls)
          go_wp2_with fail
          exact bodyPost_ret (results_tmp2 rfl _ _ _) rfl ⟨fun _ => ⟨t, v, qs, rfl, unhide HT, unhide HLV2, unhide HNL⟩, fun h => absurd ⟨unhide HFIT, by omega⟩ h, unhide HKR⟩
end Go.Proofs.YtcijeplafknokabDoor
namespace Go.Proofs.YtcijeplafknokabDoor
open Go.RowKit Go.BigFrame
set_option linter.unusedVariables false
set_option linter.unusedSimpArgs false

set_option maxRecDepth 100000 in
set_option maxHeartbeats 400000 in
theorem rooted_any (z : Int) (t : Nat) (v : Value) (ps : List Pk) (n : Nat) (w : World) (hT : TreeAt z w t v ps) (hn : n ≤ (leavesK ps).length) (hb : (leavesK ps).length < 4096) (hTb : Tabs w) (h6 : Tab6 w) :
    Calls Tryd.prog 8 #[.pointer (some ⟨t, 0, none⟩), .int .i64 n] w fun e w' => e = .returned (.tuple #[.agg (brow (rgD z (leavesK ps) 0 n)), .bool true]) ∧ Kept [] w w' := by
  have hdl := (rgD_len hT.pk 0 n).1
  have hE : rgE (leavesK ps) 0 n = 0 := if_neg (by omega)
  have k0 := (Kept.refl [] w).alloc (.cells (zb 32) 29)
  have HR := hide (rootT_all z t v ps n _ (hT.old k0) hb (hTb.kept k0 (by simp) (by simp)) (h6.kept k0))
  rw [hE] at HR
  have HZ := hide (heap_alloc_new w (.cells (zb 32) 29))
  have HK := hide k0
  have hwn : IntKind.u64.wrap (n : Int) = (n : Int) := by rw [wrU]; omega
  generalize rgD z (leavesK ps) 0 n = D at HR hdl ⊢
  clear k0 hT
  go_enter Tryd.func8, Tryd.ntmps8
  go_wp2_with (simp only [hwn])
  rw [zb32]
  refine (unhide HR).mono ?_
  rintro e w3 ⟨rfl, k3⟩
  have HZ3 := hide (k3.heap (unhide HZ) (by simp))
  have HK3 := hide ((unhide HK).trans k3 (by simp))
  clear k3
  have HN3 := hide (cell_new w3 D)
  have HO3 := hide (kept_old w3 D)
  have HZ4 := hide ((unhide HO3).heap (unhide HZ3) (by simp))
  have HK5 := hide (((unhide HK3).trans (unhide HO3) (by simp)).setRow (g := w.heap.size) (Or.inr (Nat.le_refl _)) (brow D))
  go_wp2_with (first
    | (rw [zb32]; refine wpList_store_row rfl 29 (.tmp 6) _ rfl w3.heap.size (brow D) rfl rfl _ (zb 32) (heap_alloc_new _ _) (Tryd.szD hdl) (by rw [zb_size, brow_size, hdl]) (brow_one _) ?_)
    | (refine wpList_load_row rfl 29 (.tmp 6) rfl w3.heap.size rfl _ (brow D) (0, 0) _ (unhide HN3) Tryd.underlying29 rfl (Tryd.szD hdl) ?_)
    | (refine wpList_store_row rfl 29 (.tmp 4) _ rfl w.heap.size (brow D) rfl rfl _ (zb 32) (unhide HZ4) (Tryd.szD hdl) (by rw [zb_size, brow_size, hdl]) (brow_one _) ?_))
  refine bodyPost_ret (v := .tuple #[.agg (brow D), .bool true]) ?_ rfl ⟨rfl, unhide HK5⟩
  exact results_cell_tmp rfl _ _ w.heap.size _ (brow D) (0, 0) _ rfl (setRow_heap _ _ _ _ _ _ (unhide HZ4)) Tryd.underlying29 rfl (Tryd.szD hdl) _ rfl
end Go.Proofs.YtcijeplafknokabDoor
namespace Go.Proofs.YtcijeplafknokabDoor
open Go.RowKit Go.BigFrame
set_option linter.unusedVariables false
set_option linter.unusedSimpArgs false

/-- The leaves from lo to hi. -/
def seg (L : List (List Nat)) (lo hi : Nat) : List (List Nat) := (L.drop lo).take (hi - lo)
theorem seg_one {z : Int} {no : List Nat} {A B : List (List Nat)} {lo hi : Nat} (h : hi - lo = 1) (hA : hi ≤ A.length) (hB : hi ≤ B.length) (he : rngD z no A lo hi = rngD z no B lo hi) : seg A lo hi = seg B lo hi := by
  have h1 : hi - lo = 2 ^ 0 := by omega
  rw [rngD_pow h1 hA (by omega), rngD_pow h1 hB (by omega)] at he
  unfold seg
  have one : ∀ L : List (List Nat), hi ≤ L.length → (L.drop lo).take (hi - lo) = [perT z 0 ((L.drop lo).take (2 ^ 0))] := by
    intro L hL
    rw [h1]
    have hl : ((L.drop lo).take (2 ^ 0)).length = 1 := by rw [List.length_take, List.length_drop]; simp; omega
    obtain ⟨x, hx⟩ : ∃ x, (L.drop lo).take (2 ^ 0) = [x] := by
      cases h9 : (L.drop lo).take (2 ^ 0) with
      | nil => rw [h9] at hl; simp at hl
      | cons x r => cases r with
        | nil => exact ⟨x, rfl⟩
        | cons y r => rw [h9] at hl; simp at hl
    rw [hx]; rfl
  rw [one A hA, one B hB, he]
theorem seg_app {L : List (List Nat)} {lo m hi : Nat} (h1 : lo ≤ m) (h2 : m ≤ hi) : seg L lo hi = seg L lo m ++ seg L m hi := by
  unfold seg
  have e : hi - lo = (m - lo) + (hi - m) := by omega
  rw [e, List.take_add, List.drop_drop, show lo + (m - lo) = m by omega]
theorem seg_get {L : List (List Nat)} {lo hi i : Nat} (h1 : lo ≤ i) (h2 : i < hi) : (seg L lo hi).getD (i - lo) [] = L.getD i [] := by
  unfold seg
  rw [List.getD_eq_getElem?_getD, List.getElem?_take_of_lt (by omega), List.getElem?_drop, show lo + (i - lo) = i by omega, ← List.getD_eq_getElem?_getD]
theorem seg_ne {A B : List (List Nat)} {lo hi i : Nat} (h1 : lo ≤ i) (h2 : i < hi) (h : A.getD i [] ≠ B.getD i []) : seg A lo hi ≠ seg B lo hi := by
  intro e
  rw [← seg_get (L := A) h1 h2, ← seg_get (L := B) h1 h2, e] at h
  exact h rfl
theorem seg_succ {L : List (List Nat)} {lo i : Nat} (h1 : lo ≤ i) (h2 : i < L.length) : seg L lo (i + 1) = seg L lo i ++ [L.getD i []] := by
  rw [seg_app h1 (Nat.le_succ i)]
  congr 1
  unfold seg
  rw [show i + 1 - i = 1 by omega, List.drop_eq_getElem_cons h2, List.take_succ_cons, List.take_zero, List.getD_eq_getElem?_getD, List.getElem?_eq_getElem h2]
  rfl
theorem seg_self (L : List (List Nat)) (lo : Nat) : seg L lo lo = [] := by unfold seg; rw [Nat.sub_self, List.take_zero]
end Go.Proofs.YtcijeplafknokabDoor
namespace Go.Proofs.YtcijeplafknokabDoor
open Go.RowKit Go.BigFrame
set_option linter.unusedVariables false
set_option linter.unusedSimpArgs false

set_option maxRecDepth 100000 in
set_option maxHeartbeats 1000000 in
theorem apartT_any (z : Int) (ta tb : Nat) (va vb : Value) (qa qb : List Pk) (lo hi : Nat) (w : World) (hTA : TreeAt z w ta va qa) (hTB : TreeAt z w tb vb qb) (hle : lo ≤ hi) (hA : hi ≤ (leavesK qa).length) (hB : hi ≤ (leavesK qb).length) (bA : (leavesK qa).length < 4096) (bB : (leavesK qb).length < 4096) :
    Calls Tryd.prog 12 #[.pointer (some ⟨ta, 0, none⟩), .pointer (some ⟨tb, 0, none⟩), .int .u64 lo, .int .u64 hi] w fun e w' => e = .returned (.bool (decide (seg (leavesK qa) lo hi ≠ seg (leavesK qb) lo hi))) ∧ Kept [] w w' := by
  have HTA := hide hTA
  have HTB := hide hTB
  obtain ⟨E, hE⟩ : ∃ E, decide (seg (leavesK qa) lo hi ≠ seg (leavesK qb) lo hi) = E := ⟨_, rfl⟩
  have HE := hide hE
  rw [hE]
  clear hE hTA hTB
  go_enter Tryd.func12, Tryd.ntmps12
  go_wp2_with fail
  go_loopw [9] (fun t9 wr => ∃ (i : Nat), lo ≤ i ∧ i ≤ hi ∧ t9 = .int .u64 (i : Int) ∧ Hid (seg (leavesK qa) lo i = seg (leavesK qb) lo i) ∧ Hid (Kept [] w wr)) (fun t _ => hi - (intOf t).toNat)
  case atStart => exact ⟨lo, Nat.le_refl _, hle, rfl, hide (by rw [seg_self, seg_self]), hide (Kept.refl _ _)⟩
  case round =>
    obtain ⟨i, hi1, hi2, rfl, HSG, HKR⟩ := hrel
    by_cases hlt : i < hi
    · have hilt' : (i : Int) < hi := by omega
      have hadd : IntKind.u64.wrap ((i : Int) + 1) = (i : Int) + 1 := by rw [wrU]; omega
      have HA := hide (fun W (kk : Kept [] w W) => (by
        have h9 := leafT_all z ta va qa i W ((unhide HTA).old kk) (by omega)
        rw [show lfD (leavesK qa) i = (leavesK qa).getD i [] from if_neg (by omega), show lfE (leavesK qa) i = 0 from if_neg (by omega)] at h9
        exact h9 : Calls Tryd.prog 10 #[.pointer (some ⟨ta, 0, none⟩), .int .u64 (i : Int)] W fun e w' => e = .returned (.tuple #[.agg (brow ((leavesK qa).getD i [])), .int .i64 0]) ∧ Kept [] W w'))
      have HB := hide (fun W (kk : Kept [] w W) => (by
        have h9 := leafT_all z tb vb qb i W ((unhide HTB).old kk) (by omega)
        rw [show lfD (leavesK qb) i = (leavesK qb).getD i [] from if_neg (by omega), show lfE (leavesK qb) i = 0 from if_neg (by omega)] at h9
        exact h9 : Calls Tryd.prog 10 #[.pointer (some ⟨tb, 0, none⟩), .int .u64 (i : Int)] W fun e w' => e = .returned (.tuple #[.agg (brow ((leavesK qb).getD i [])), .int .i64 0]) ∧ Kept [] W w'))
      have hx : ((leavesK qa).getD i []).length = 32 := by have h9 := (lfD_dg (unhide HTA).pk i).1; rw [show lfD (leavesK qa) i = (leavesK qa).getD i [] from if_neg (by omega)] at h9; exact h9
      have hy : ((leavesK qb).getD i []).length = 32 := by have h9 := (lfD_dg (unhide HTB).pk i).1; rw [show lfD (leavesK qb) i = (leavesK qb).getD i [] from if_neg (by omega)] at h9; exact h9
      have HYES := hide (fun (h : (leavesK qa).getD i [] = (leavesK qb).getD i []) => (by rw [seg_succ (by omega) (by omega), seg_succ (by omega) (by omega), unhide HSG, h] : seg (leavesK qa) lo (i + 1) = seg (leavesK qb) lo (i + 1)))
      have HNO := hide (fun (h : (leavesK qa).getD i [] ≠ (leavesK qb).getD i []) => (by rw [← unhide HE]; exact decide_eq_true (seg_ne (by omega) (by omega) h) : E = true))
      generalize (leavesK qa).getD i [] = X at HA hx HYES HNO
      generalize (leavesK qb).getD i [] = Y at HB hy HYES HNO
      have hq := fun W => dig_eq W X Y hx hy
      by_cases hXY : X = Y
      · rw [decide_eq_true hXY] at hq
        have HY := hide (unhide HYES hXY)
        clear HYES HNO hXY
        go_wp2_with fail
        refine (unhide HA wr (unhide HKR)).mono ?_
        rintro e wa1 ⟨rfl, ka⟩
        have HKa1 := hide ((unhide HKR).trans ka (by simp))
        clear ka
        have HN1 := hide (cell_new wa1 X)
        have HO1 := hide (kept_old wa1 X)
        have HKb1 := hide ((unhide HKa1).trans (unhide HO1) (by simp))
        go_wp2_with (first
          | (rw [zb32]; refine wpList_store_row rfl 29 (.tmp 10) _ rfl wa1.heap.size (brow X) rfl rfl _ (zb 32) (heap_alloc_new _ _) (Tryd.szD hx) (by rw [zb_size, brow_size, hx]) (brow_one _) ?_))
        obtain ⟨wb1, hwb⟩ : ∃ wb, (wa1.alloc (.cells (zb 32) 29)).setRow wa1.heap.size (brow X) = wb := ⟨_, rfl⟩
        rw [hwb] at HN1 HO1 HKb1 ⊢
        clear hwb
        refine (unhide HB wb1 (unhide HKb1)).mono ?_
        rintro e wa2 ⟨rfl, ka⟩
        have HKa2 := hide ((unhide HKb1).trans ka (by simp))
        have HN1a2 := hide (ka.heap (unhide HN1) (by simp))
        clear ka
        have HN2 := hide (cell_new wa2 Y)
        have HO2 := hide (kept_old wa2 Y)
        have HKb2 := hide ((unhide HKa2).trans (unhide HO2) (by simp))
        have HN1b2 := hide ((unhide HO2).heap (unhide HN1a2) (by simp))
        go_wp2_with (first
          | (rw [zb32]; refine wpList_store_row rfl 29 (.tmp 12) _ rfl wa2.heap.size (brow Y) rfl rfl _ (zb 32) (heap_alloc_new _ _) (Tryd.szD hy) (by rw [zb_size, brow_size, hy]) (brow_one _) ?_)
          | (refine wpList_load_row rfl 29 (.tmp 10) rfl wa1.heap.size rfl _ (brow X) (0, 0) _ (unhide HN1b2) Tryd.underlying29 rfl (Tryd.szD hx) ?_)
          | (refine wpList_load_row rfl 29 (.tmp 12) rfl wa2.heap.size rfl _ (brow Y) (0, 0) _ (unhide HN2) Tryd.underlying29 rfl (Tryd.szD hy) ?_)
          | (simp only [hadd]))
        refine ⟨⟨i + 1, by omega, by omega, by simp, HY, HKb2⟩, ?_⟩
        simp [intOf]
        omega
      · rw [decide_eq_false hXY] at hq
        have HY := hide (unhide HNO hXY)
        clear HYES HNO hXY
        go_wp2_with fail
        refine (unhide HA wr (unhide HKR)).mono ?_
        rintro e wa1 ⟨rfl, ka⟩
        have HKa1 := hide ((unhide HKR).trans ka (by simp))
        clear ka
        have HN1 := hide (cell_new wa1 X)
        have HO1 := hide (kept_old wa1 X)
        have HKb1 := hide ((unhide HKa1).trans (unhide HO1) (by simp))
        go_wp2_with (first
          | (rw [zb32]; refine wpList_store_row rfl 29 (.tmp 10) _ rfl wa1.heap.size (brow X) rfl rfl _ (zb 32) (heap_alloc_new _ _) (Tryd.szD hx) (by rw [zb_size, brow_size, hx]) (brow_one _) ?_))
        obtain ⟨wb1, hwb⟩ : ∃ wb, (wa1.alloc (.cells (zb 32) 29)).setRow wa1.heap.size (brow X) = wb := ⟨_, rfl⟩
        rw [hwb] at HN1 HO1 HKb1 ⊢
        clear hwb
        refine (unhide HB wb1 (unhide HKb1)).mono ?_
        rintro e wa2 ⟨rfl, ka⟩
        have HKa2 := hide ((unhide HKb1).trans ka (by simp))
        have HN1a2 := hide (ka.heap (unhide HN1) (by simp))
        clear ka
        have HN2 := hide (cell_new wa2 Y)
        have HO2 := hide (kept_old wa2 Y)
        have HKb2 := hide ((unhide HKa2).trans (unhide HO2) (by simp))
        have HN1b2 := hide ((unhide HO2).heap (unhide HN1a2) (by simp))
        go_wp2_with (first
          | (rw [zb32]; refine wpList_store_row rfl 29 (.tmp 12) _ rfl wa2.heap.size (brow Y) rfl rfl _ (zb 32) (heap_alloc_new _ _) (Tryd.szD hy) (by rw [zb_size, brow_size, hy]) (brow_one _) ?_)
          | (refine wpList_load_row rfl 29 (.tmp 10) rfl wa1.heap.size rfl _ (brow X) (0, 0) _ (unhide HN1b2) Tryd.underlying29 rfl (Tryd.szD hx) ?_)
          | (refine wpList_load_row rfl 29 (.tmp 12) rfl wa2.heap.size rfl _ (brow Y) (0, 0) _ (unhide HN2) Tryd.underlying29 rfl (Tryd.szD hy) ?_)
          | (simp only [hadd]))
        go_ret
        exact ⟨by rw [unhide HY]; rfl, unhide HKb2⟩
    · have hilt' : ¬ (i : Int) < hi := by omega
      have hie : i = hi := by omega
      subst hie
      have HEF := hide (by rw [← unhide HE, unhide HSG]; simp : E = false)
      go_wp2_with fail
      go_ret
      exact ⟨by rw [unhide HEF]; rfl, unhide HKR⟩
end Go.Proofs.YtcijeplafknokabDoor
namespace Go.Proofs.YtcijeplafknokabDoor
open Go.RowKit Go.BigFrame
set_option linter.unusedVariables false
set_option linter.unusedSimpArgs false

set_option maxRecDepth 100000 in
set_option maxHeartbeats 4000000 in
theorem differT_any (z : Int) (ta tb : Nat) (va vb : Value) (qa qb : List Pk) (lo hi : Nat) (w : World) (hTA : TreeAt z w ta va qa) (hTB : TreeAt z w tb vb qb) (hle : lo ≤ hi) (hA : hi ≤ (leavesK qa).length) (hB : hi ≤ (leavesK qb).length) (bA : (leavesK qa).length < 4096) (bB : (leavesK qb).length < 4096) (hsz : hi - lo ≤ 512) (heq : rngD z (noT z) (leavesK qa) lo hi = rngD z (noT z) (leavesK qb) lo hi) (hne : seg (leavesK qa) lo hi ≠ seg (leavesK qb) lo hi) (hT : Tabs w) (h6 : Tab6 w) :
    Calls Tryd.prog 13 #[.pointer (some ⟨ta, 0, none⟩), .pointer (some ⟨tb, 0, none⟩), .int .u64 lo, .int .u64 hi] w fun e w' => e = .returned (.bool true) ∧ Kept [] w w' := by
  have HTA := hide hTA
  have HTB := hide hTB
  have HTBS := hide hT
  have H6 := hide h6
  have HEQ0 := hide heq
  have HNE0 := hide hne
  clear hTA hTB hT h6 heq hne
  go_enter Tryd.func13, Tryd.ntmps13
  go_wp2_with fail
  go_loopw [2, 3, 20] (fun t2 t3 t20 wr => ∃ (l h k : Nat), t2 = .int .u64 (l : Int) ∧ t3 = .int .u64 (h : Int) ∧ t20 = .int .i64 (k : Int) ∧ k ≤ 9 ∧ l ≤ h ∧ h ≤ hi ∧ Hid (h - l ≤ 2 ^ (9 - k)) ∧ Hid (rngD z (noT z) (leavesK qa) l h = rngD z (noT z) (leavesK qb) l h) ∧ Hid (seg (leavesK qa) l h ≠ seg (leavesK qb) l h) ∧ Hid (Kept [] w wr)) (fun _ _ t _ => 70 - (intOf t).toNat)
  case atStart => exact ⟨lo, hi, 0, rfl, rfl, rfl, by omega, hle, Nat.le_refl _, hide (by simpa using hsz), HEQ0, HNE0, hide (Kept.refl _ _)⟩
  case round =>
    obtain ⟨l, h, k, rfl, rfl, rfl, hk9, hlh, hhh, HSZ, HEQ, HNE, HKR⟩ := hrel
    have hk70 : (k : Int) < 70 := by omega
    have hlt : l < h := by
      rcases Nat.lt_or_ge l h with h9 | h9
      · exact h9
      · exfalso
        apply unhide HNE
        unfold seg
        rw [show h - l = 0 by omega, List.take_zero, List.take_zero]
    have hn2 : 2 ≤ h - l := by
      rcases (by omega : h - l = 1 ∨ 2 ≤ h - l) with h9 | h9
      · exact absurd (seg_one h9 (by omega) (by omega) (unhide HEQ)) (unhide HNE)
      · exact h9
    obtain ⟨n, hn⟩ : ∃ n, h - l = n := ⟨_, rfl⟩
    have hsub : IntKind.u64.wrap ((h : Int) - (l : Int)) = (n : Int) := by rw [wrU]; omega
    have hn2' : ¬ (n : Int) < 2 := by omega
    have hbl := belT_lt (n := n) (by omega)
    have HBE := hide (fun j (h : 2 ^ j ≤ n - 1) (h' : n - 1 < 2 ^ (j + 1)) => (by unfold belT; rw [(Nat.log2_eq_iff (by omega)).2 ⟨h, h'⟩] : belT n = 2 ^ j))
    have hk8 : k ≤ 8 := by
      rcases Nat.lt_or_ge 8 k with h9 | h9
      · exfalso
        have h7 := unhide HSZ
        have h8 : 9 - k = 0 := by omega
        rw [h8] at h7
        omega
      · exact h9
    have HSB := hide (by
      have h7 := unhide HSZ
      unfold belT at *
      have h8 : 2 ^ (n - 1).log2 < 2 ^ (9 - k) := by omega
      have h9 := (Nat.pow_lt_pow_iff_right (by omega : 1 < 2)).1 h8
      have : 2 ^ (n - 1).log2 ≤ 2 ^ (9 - (k + 1)) := Nat.pow_le_pow_right (by omega) (by omega)
      exact this : belT n ≤ 2 ^ (9 - (k + 1)))
    obtain ⟨B, hB⟩ : ∃ B, belT n = B := ⟨_, rfl⟩
    rw [hB] at HBE hbl HSB
    have HSZ2a := hide (by have := unhide HSB; omega : l + B - l ≤ 2 ^ (9 - (k + 1)))
    have HSZ2b := hide (by have := unhide HSB; omega : h - (l + B) ≤ 2 ^ (9 - (k + 1)))
    clear hB HSB
    have hlm0 : IntKind.u64.wrap ((l : Int) + (B : Int)) = (l : Int) + (B : Int) := by rw [wrU]; omega
    have HRA := hide (fun W (kk : Kept [] w W) => (by
      have h9 := rangeT_all z ta va qa (l) (h) W ((unhide HTA).old kk) (by omega) ((unhide HTBS).kept kk (by simp) (by simp)) ((unhide H6).kept kk)
      rw [show rgD z (leavesK qa) (l) (h) = rngD z (noT z) (leavesK qa) (l) (h) from if_neg (by omega), show rgE (leavesK qa) (l) (h) = 0 from if_neg (by omega)] at h9
      exact h9 : Calls Tryd.prog 24 #[.pointer (some ⟨ta, 0, none⟩), .int .u64 (l : Int), .int .u64 (h : Int)] W fun e w' => e = .returned (.tuple #[.agg (brow (rngD z (noT z) (leavesK qa) (l) (h))), .int .i64 0]) ∧ Kept [] W w'))
    have hDl : (rngD z (noT z) (leavesK qa) (l) (h)).length = 32 := (log_dg z (noT z) _ (noT_dg z) (fun d hd => ((unhide HTA).pk.leaves d (List.mem_of_mem_drop (List.mem_of_mem_take hd))).1)).1
    have HRB := hide (fun W (kk : Kept [] w W) => (by
      have h9 := rangeT_all z tb vb qb (l) (h) W ((unhide HTB).old kk) (by omega) ((unhide HTBS).kept kk (by simp) (by simp)) ((unhide H6).kept kk)
      rw [show rgD z (leavesK qb) (l) (h) = rngD z (noT z) (leavesK qb) (l) (h) from if_neg (by omega), show rgE (leavesK qb) (l) (h) = 0 from if_neg (by omega)] at h9
      exact h9 : Calls Tryd.prog 24 #[.pointer (some ⟨tb, 0, none⟩), .int .u64 (l : Int), .int .u64 (h : Int)] W fun e w' => e = .returned (.tuple #[.agg (brow (rngD z (noT z) (leavesK qb) (l) (h))), .int .i64 0]) ∧ Kept [] W w'))
    have hEl : (rngD z (noT z) (leavesK qb) (l) (h)).length = 32 := (log_dg z (noT z) _ (noT_dg z) (fun d hd => ((unhide HTB).pk.leaves d (List.mem_of_mem_drop (List.mem_of_mem_take hd))).1)).1
    have HP := hide (fun W (kk : Kept [] w W) => (by
      have h9 := rangeT_all z ta va qa (l) (l + B) W ((unhide HTA).old kk) (by omega) ((unhide HTBS).kept kk (by simp) (by simp)) ((unhide H6).kept kk)
      rw [show rgD z (leavesK qa) (l) (l + B) = rngD z (noT z) (leavesK qa) (l) (l + B) from if_neg (by omega), show rgE (leavesK qa) (l) (l + B) = 0 from if_neg (by omega), show ((l + B : Nat) : Int) = (l : Int) + (B : Int) from by omega] at h9
      exact h9 : Calls Tryd.prog 24 #[.pointer (some ⟨ta, 0, none⟩), .int .u64 (l : Int), .int .u64 ((l : Int) + (B : Int))] W fun e w' => e = .returned (.tuple #[.agg (brow (rngD z (noT z) (leavesK qa) (l) (l + B))), .int .i64 0]) ∧ Kept [] W w'))
    have hPl : (rngD z (noT z) (leavesK qa) (l) (l + B)).length = 32 := (log_dg z (noT z) _ (noT_dg z) (fun d hd => ((unhide HTA).pk.leaves d (List.mem_of_mem_drop (List.mem_of_mem_take hd))).1)).1
    have HQ := hide (fun W (kk : Kept [] w W) => (by
      have h9 := rangeT_all z tb vb qb (l) (l + B) W ((unhide HTB).old kk) (by omega) ((unhide HTBS).kept kk (by simp) (by simp)) ((unhide H6).kept kk)
      rw [show rgD z (leavesK qb) (l) (l + B) = rngD z (noT z) (leavesK qb) (l) (l + B) from if_neg (by omega), show rgE (leavesK qb) (l) (l + B) = 0 from if_neg (by omega), show ((l + B : Nat) : Int) = (l : Int) + (B : Int) from by omega] at h9
      exact h9 : Calls Tryd.prog 24 #[.pointer (some ⟨tb, 0, none⟩), .int .u64 (l : Int), .int .u64 ((l : Int) + (B : Int))] W fun e w' => e = .returned (.tuple #[.agg (brow (rngD z (noT z) (leavesK qb) (l) (l + B))), .int .i64 0]) ∧ Kept [] W w'))
    have hQl : (rngD z (noT z) (leavesK qb) (l) (l + B)).length = 32 := (log_dg z (noT z) _ (noT_dg z) (fun d hd => ((unhide HTB).pk.leaves d (List.mem_of_mem_drop (List.mem_of_mem_take hd))).1)).1
    have HR := hide (fun W (kk : Kept [] w W) => (by
      have h9 := rangeT_all z ta va qa (l + B) (h) W ((unhide HTA).old kk) (by omega) ((unhide HTBS).kept kk (by simp) (by simp)) ((unhide H6).kept kk)
      rw [show rgD z (leavesK qa) (l + B) (h) = rngD z (noT z) (leavesK qa) (l + B) (h) from if_neg (by omega), show rgE (leavesK qa) (l + B) (h) = 0 from if_neg (by omega), show ((l + B : Nat) : Int) = (l : Int) + (B : Int) from by omega] at h9
      exact h9 : Calls Tryd.prog 24 #[.pointer (some ⟨ta, 0, none⟩), .int .u64 ((l : Int) + (B : Int)), .int .u64 (h : Int)] W fun e w' => e = .returned (.tuple #[.agg (brow (rngD z (noT z) (leavesK qa) (l + B) (h))), .int .i64 0]) ∧ Kept [] W w'))
    have hRl : (rngD z (noT z) (leavesK qa) (l + B) (h)).length = 32 := (log_dg z (noT z) _ (noT_dg z) (fun d hd => ((unhide HTA).pk.leaves d (List.mem_of_mem_drop (List.mem_of_mem_take hd))).1)).1
    have HS := hide (fun W (kk : Kept [] w W) => (by
      have h9 := rangeT_all z tb vb qb (l + B) (h) W ((unhide HTB).old kk) (by omega) ((unhide HTBS).kept kk (by simp) (by simp)) ((unhide H6).kept kk)
      rw [show rgD z (leavesK qb) (l + B) (h) = rngD z (noT z) (leavesK qb) (l + B) (h) from if_neg (by omega), show rgE (leavesK qb) (l + B) (h) = 0 from if_neg (by omega), show ((l + B : Nat) : Int) = (l : Int) + (B : Int) from by omega] at h9
      exact h9 : Calls Tryd.prog 24 #[.pointer (some ⟨tb, 0, none⟩), .int .u64 ((l : Int) + (B : Int)), .int .u64 (h : Int)] W fun e w' => e = .returned (.tuple #[.agg (brow (rngD z (noT z) (leavesK qb) (l + B) (h))), .int .i64 0]) ∧ Kept [] W w'))
    have hSl : (rngD z (noT z) (leavesK qb) (l + B) (h)).length = 32 := (log_dg z (noT z) _ (noT_dg z) (fun d hd => ((unhide HTB).pk.leaves d (List.mem_of_mem_drop (List.mem_of_mem_take hd))).1)).1
    have HEQ1 := hide (fun (e9 : rngD z (noT z) (leavesK qa) l (l + B) = rngD z (noT z) (leavesK qb) l (l + B)) => e9)
    have HEQ2 := hide (fun (e9 : rngD z (noT z) (leavesK qa) (l + B) h = rngD z (noT z) (leavesK qb) (l + B) h) => e9)
    rw [← unhide HEQ] at HRB
    clear hEl
    obtain ⟨D, hD⟩ : ∃ D, rngD z (noT z) (leavesK qa) l h = D := ⟨_, rfl⟩
    rw [hD] at HRA HRB hDl
    have hdl := hDl
    clear hD hDl
    obtain ⟨P, hP⟩ : ∃ P, rngD z (noT z) (leavesK qa) l (l + B) = P := ⟨_, rfl⟩
    obtain ⟨Q, hQ⟩ : ∃ Q, rngD z (noT z) (leavesK qb) l (l + B) = Q := ⟨_, rfl⟩
    obtain ⟨R, hR⟩ : ∃ R, rngD z (noT z) (leavesK qa) (l + B) h = R := ⟨_, rfl⟩
    obtain ⟨S, hS⟩ : ∃ S, rngD z (noT z) (leavesK qb) (l + B) h = S := ⟨_, rfl⟩
    rw [hP] at HP hPl
    rw [hQ] at HQ hQl
    rw [hR] at HR hRl
    rw [hS] at HS hSl
    have HPP := hide hP
    have HQQ := hide hQ
    have HRR := hide hR
    have HSS := hide hS
    clear hP hQ hR hS HEQ1 HEQ2
    have hqd : ∀ W, (Op.equalIn 10000 29 (.agg (brow D)) (.agg (brow D))).run Tryd.prog W = .ok true W := dig_same D hdl
    have hlm := hlm0
    go_wp2_with fail
    refine (unhide HRA wr (unhide HKR)).mono ?_
    rintro e wa1 ⟨rfl, ka⟩
    have HKa1 := hide ((unhide HKR).trans ka (by simp))
    clear ka
    have HN1 := hide (cell_new wa1 D)
    have HO1 := hide (kept_old wa1 D)
    have HKb1 := hide ((unhide HKa1).trans (unhide HO1) (by simp))
    go_wp2_with (first
      | (rw [zb32]; refine wpList_store_row rfl 29 (.tmp 9) _ rfl wa1.heap.size (brow D) rfl rfl _ (zb 32) (heap_alloc_new _ _) (Tryd.szD hdl) (by rw [zb_size, brow_size, hdl]) (brow_one _) ?_))
    obtain ⟨wb1, hwb⟩ : ∃ wb, (wa1.alloc (.cells (zb 32) 29)).setRow wa1.heap.size (brow D) = wb := ⟨_, rfl⟩
    rw [hwb] at HN1 HO1 HKb1 ⊢
    clear hwb
    refine (unhide HRB wb1 (unhide HKb1)).mono ?_
    rintro e wa2 ⟨rfl, ka⟩
    have HKa2 := hide ((unhide HKb1).trans ka (by simp))
    have HN1a2 := hide (ka.heap (unhide HN1) (by simp))
    clear ka
    have HN2 := hide (cell_new wa2 D)
    have HO2 := hide (kept_old wa2 D)
    have HKb2 := hide ((unhide HKa2).trans (unhide HO2) (by simp))
    have HN1b2 := hide ((unhide HO2).heap (unhide HN1a2) (by simp))
    go_wp2_with (first
      | (rw [zb32]; refine wpList_store_row rfl 29 (.tmp 11) _ rfl wa2.heap.size (brow D) rfl rfl _ (zb 32) (heap_alloc_new _ _) (Tryd.szD hdl) (by rw [zb_size, brow_size, hdl]) (brow_one _) ?_)
      | (refine wpList_load_rowG rfl 29 (.tmp 9) rfl wa1.heap.size rfl _ (brow D) (0, 0) _ (unhide HN1b2) Tryd.underlying29 rfl (Tryd.szD hdl) ?_)
      | (refine wpList_load_rowG rfl 29 (.tmp 11) rfl wa2.heap.size rfl _ (brow D) (0, 0) _ (unhide HN2) Tryd.underlying29 rfl (Tryd.szD hdl) ?_)
      | (simp only [hsub]))
    obtain ⟨wb2, hwb⟩ : ∃ wb, (wa2.alloc (.cells (zb 32) 29)).setRow wa2.heap.size (brow D) = wb := ⟨_, rfl⟩
    rw [hwb] at HN2 HO2 HKb2 ⊢
    clear hwb
    go_loopw [13] (fun t13 wq => ∃ (m : Nat), t13 = .int .u64 (m : Int) ∧ 1 ≤ m ∧ m ≤ n - 1 ∧ Hid (∃ j, m = 2 ^ j) ∧ Hid (Kept [] w wq)) (fun t _ => n - (intOf t).toNat)
    case atStart => exact ⟨1, rfl, by omega, by omega, hide ⟨0, rfl⟩, HKb2⟩
    case round =>
      obtain ⟨m, rfl, hm1, hm2, HJ, HKR3⟩ := hrel
      by_cases hle : 2 * m < n
      · have hle' : 2 * (m : Int) < (n : Int) := by omega
        have hmul : IntKind.u64.wrap (2 * (m : Int)) = 2 * (m : Int) := by rw [wrU]; omega
        have hmul2 : IntKind.u64.wrap ((m : Int) * 2) = ((2 * m : Nat) : Int) := by rw [wrU]; omega
        have HJ2 := hide (by obtain ⟨j, hj⟩ := unhide HJ; exact ⟨j + 1, by rw [Nat.pow_succ]; omega⟩ : ∃ j, 2 * m = 2 ^ j)
        go_wp2_with (first | simp only [hsub] | simp only [hmul] | simp only [hmul2])
        refine ⟨⟨2 * m, rfl, by omega, by omega, HJ2, HKR3⟩, ?_⟩
        simp [intOf]
        omega
      · have hle' : ¬ 2 * (m : Int) < (n : Int) := by omega
        have hmul : IntKind.u64.wrap (2 * (m : Int)) = 2 * (m : Int) := by rw [wrU]; omega
        have hmB : B = m := by obtain ⟨j, hj⟩ := unhide HJ; rw [hj]; exact (unhide HBE j (by omega) (by rw [Nat.pow_succ]; omega))
        subst hmB
        clear HJ HBE
        go_wp2_with (first | simp only [hsub] | simp only [hmul] | simp only [hlm])
        by_cases hPQ : P = Q
        · by_cases hRS : R = S
          · subst hPQ
            subst hRS
            have hqp := fun W => dig_same P hPl W
            have hqr := fun W => dig_same R hRl W
            refine (unhide HP wr (unhide HKR3)).mono ?_
            rintro e wa3 ⟨rfl, ka⟩
            have HKa3 := hide ((unhide HKR3).trans ka (by simp))
            clear ka
            have HN3 := hide (cell_new wa3 P)
            have HO3 := hide (kept_old wa3 P)
            have HKb3 := hide ((unhide HKa3).trans (unhide HO3) (by simp))
            go_wp2_with (first
              | (rw [zb32]; refine wpList_store_row rfl 29 (.tmp 14) _ rfl wa3.heap.size (brow P) rfl rfl _ (zb 32) (heap_alloc_new _ _) (Tryd.szD hPl) (by rw [zb_size, brow_size, hPl]) (brow_one _) ?_)
              | (simp only [hlm]))
            obtain ⟨wb3, hwb⟩ : ∃ wb, (wa3.alloc (.cells (zb 32) 29)).setRow wa3.heap.size (brow P) = wb := ⟨_, rfl⟩
            rw [hwb] at HN3 HO3 HKb3 ⊢
            clear hwb
            refine (unhide HQ wb3 (unhide HKb3)).mono ?_
            rintro e wa4 ⟨rfl, ka⟩
            have HKa4 := hide ((unhide HKb3).trans ka (by simp))
            have HN3a4 := hide (ka.heap (unhide HN3) (by simp))
            clear ka
            have HN4 := hide (cell_new wa4 P)
            have HO4 := hide (kept_old wa4 P)
            have HKb4 := hide ((unhide HKa4).trans (unhide HO4) (by simp))
            have HN3b4 := hide ((unhide HO4).heap (unhide HN3a4) (by simp))
            go_wp2_with (first
              | (rw [zb32]; refine wpList_store_row rfl 29 (.tmp 15) _ rfl wa4.heap.size (brow P) rfl rfl _ (zb 32) (heap_alloc_new _ _) (Tryd.szD hQl) (by rw [zb_size, brow_size, hQl]) (brow_one _) ?_)
              | (simp only [hlm]))
            obtain ⟨wb4, hwb⟩ : ∃ wb, (wa4.alloc (.cells (zb 32) 29)).setRow wa4.heap.size (brow P) = wb := ⟨_, rfl⟩
            rw [hwb] at HN4 HO4 HKb4 HN3b4 ⊢
            clear hwb
            refine (unhide HR wb4 (unhide HKb4)).mono ?_
            rintro e wa5 ⟨rfl, ka⟩
            have HKa5 := hide ((unhide HKb4).trans ka (by simp))
            have HN3b4a5 := hide (ka.heap (unhide HN3b4) (by simp))
            have HN4a5 := hide (ka.heap (unhide HN4) (by simp))
            clear ka
            have HN5 := hide (cell_new wa5 R)
            have HO5 := hide (kept_old wa5 R)
            have HKb5 := hide ((unhide HKa5).trans (unhide HO5) (by simp))
            have HN3b4b5 := hide ((unhide HO5).heap (unhide HN3b4a5) (by simp))
            have HN4b5 := hide ((unhide HO5).heap (unhide HN4a5) (by simp))
            go_wp2_with (first
              | (rw [zb32]; refine wpList_store_row rfl 29 (.tmp 16) _ rfl wa5.heap.size (brow R) rfl rfl _ (zb 32) (heap_alloc_new _ _) (Tryd.szD hRl) (by rw [zb_size, brow_size, hRl]) (brow_one _) ?_)
              | (simp only [hlm]))
            obtain ⟨wb5, hwb⟩ : ∃ wb, (wa5.alloc (.cells (zb 32) 29)).setRow wa5.heap.size (brow R) = wb := ⟨_, rfl⟩
            rw [hwb] at HN5 HO5 HKb5 HN3b4b5 HN4b5 ⊢
            clear hwb
            refine (unhide HS wb5 (unhide HKb5)).mono ?_
            rintro e wa6 ⟨rfl, ka⟩
            have HKa6 := hide ((unhide HKb5).trans ka (by simp))
            have HN3b4b5a6 := hide (ka.heap (unhide HN3b4b5) (by simp))
            have HN4b5a6 := hide (ka.heap (unhide HN4b5) (by simp))
            have HN5a6 := hide (ka.heap (unhide HN5) (by simp))
            clear ka
            have HN6 := hide (cell_new wa6 R)
            have HO6 := hide (kept_old wa6 R)
            have HKb6 := hide ((unhide HKa6).trans (unhide HO6) (by simp))
            have HN3b4b5b6 := hide ((unhide HO6).heap (unhide HN3b4b5a6) (by simp))
            have HN4b5b6 := hide ((unhide HO6).heap (unhide HN4b5a6) (by simp))
            have HN5b6 := hide ((unhide HO6).heap (unhide HN5a6) (by simp))
            go_wp2_with (first
              | (rw [zb32]; refine wpList_store_row rfl 29 (.tmp 18) _ rfl wa6.heap.size (brow R) rfl rfl _ (zb 32) (heap_alloc_new _ _) (Tryd.szD hSl) (by rw [zb_size, brow_size, hSl]) (brow_one _) ?_)
              | (refine wpList_load_rowG rfl 29 (.tmp 14) rfl wa3.heap.size rfl _ (brow P) (0, 0) _ (unhide HN3b4b5b6) Tryd.underlying29 rfl (Tryd.szD hPl) ?_)
              | (refine wpList_load_rowG rfl 29 (.tmp 15) rfl wa4.heap.size rfl _ (brow P) (0, 0) _ (unhide HN4b5b6) Tryd.underlying29 rfl (Tryd.szD hQl) ?_)
              | (refine wpList_load_rowG rfl 29 (.tmp 16) rfl wa5.heap.size rfl _ (brow R) (0, 0) _ (unhide HN5b6) Tryd.underlying29 rfl (Tryd.szD hRl) ?_)
              | (refine wpList_load_rowG rfl 29 (.tmp 18) rfl wa6.heap.size rfl _ (brow R) (0, 0) _ (unhide HN6) Tryd.underlying29 rfl (Tryd.szD hSl) ?_)
              | (simp only [hlm]))
            have HAP := hide (fun W (kk : Kept [] w W) => (by
              have h9 := apartT_any z ta tb va vb qa qb l (l + B) W ((unhide HTA).old kk) ((unhide HTB).old kk) (by omega) (by omega) (by omega) (by omega) (by omega)
              rw [show ((l + B : Nat) : Int) = (l : Int) + (B : Int) from by omega] at h9
              exact h9 : Calls Tryd.prog 12 #[.pointer (some ⟨ta, 0, none⟩), .pointer (some ⟨tb, 0, none⟩), .int .u64 (l : Int), .int .u64 ((l : Int) + (B : Int))] W fun e w' => e = .returned (.bool (decide (seg (leavesK qa) l (l + B) ≠ seg (leavesK qb) l (l + B)))) ∧ Kept [] W w'))
            refine (unhide HAP _ (unhide HKb6)).mono ?_
            rintro e wz ⟨rfl, kz⟩
            have HKZ := hide ((unhide HKb6).trans kz (by simp))
            clear kz HAP
            by_cases hsg : seg (leavesK qa) l (l + B) = seg (leavesK qb) l (l + B)
            · have HNE2 := hide (by
                intro e9
                refine unhide HNE ?_
                rw [seg_app (L := leavesK qa) (m := l + B) (by omega) (by omega), seg_app (L := leavesK qb) (m := l + B) (by omega) (by omega), hsg, e9] : seg (leavesK qa) (l + B) h ≠ seg (leavesK qb) (l + B) h)
              rw [decide_eq_false (by simpa using hsg)]
              go_wp2_with (simp only [hlm])
              refine ⟨⟨l + B, h, k + 1, by simp, rfl, by simp, by omega, by omega, by omega, HSZ2b, hide ((unhide HRR).trans (unhide HSS).symm), HNE2, HKZ⟩, ?_⟩
              simp [intOf]
              omega
            · have HNE2 := hide hsg
              rw [decide_eq_true hsg]
              go_wp2_with (simp only [hlm])
              refine ⟨⟨l, l + B, k + 1, rfl, by simp, by simp, by omega, by omega, by omega, HSZ2a, hide ((unhide HPP).trans (unhide HQQ).symm), HNE2, HKZ⟩, ?_⟩
              simp [intOf]
              omega
          · subst hPQ
            have hqp := fun W => dig_same P hPl W
            have hqr : ∀ W, (Op.equalIn 10000 29 (.agg (brow R)) (.agg (brow S))).run Tryd.prog W = .ok false W := fun W => by rw [dig_eq W R S hRl hSl, decide_eq_false hRS]
            refine (unhide HP wr (unhide HKR3)).mono ?_
            rintro e wa3 ⟨rfl, ka⟩
            have HKa3 := hide ((unhide HKR3).trans ka (by simp))
            clear ka
            have HN3 := hide (cell_new wa3 P)
            have HO3 := hide (kept_old wa3 P)
            have HKb3 := hide ((unhide HKa3).trans (unhide HO3) (by simp))
            go_wp2_with (first
              | (rw [zb32]; refine wpList_store_row rfl 29 (.tmp 14) _ rfl wa3.heap.size (brow P) rfl rfl _ (zb 32) (heap_alloc_new _ _) (Tryd.szD hPl) (by rw [zb_size, brow_size, hPl]) (brow_one _) ?_)
              | (simp only [hlm]))
            obtain ⟨wb3, hwb⟩ : ∃ wb, (wa3.alloc (.cells (zb 32) 29)).setRow wa3.heap.size (brow P) = wb := ⟨_, rfl⟩
            rw [hwb] at HN3 HO3 HKb3 ⊢
            clear hwb
            refine (unhide HQ wb3 (unhide HKb3)).mono ?_
            rintro e wa4 ⟨rfl, ka⟩
            have HKa4 := hide ((unhide HKb3).trans ka (by simp))
            have HN3a4 := hide (ka.heap (unhide HN3) (by simp))
            clear ka
            have HN4 := hide (cell_new wa4 P)
            have HO4 := hide (kept_old wa4 P)
            have HKb4 := hide ((unhide HKa4).trans (unhide HO4) (by simp))
            have HN3b4 := hide ((unhide HO4).heap (unhide HN3a4) (by simp))
            go_wp2_with (first
              | (rw [zb32]; refine wpList_store_row rfl 29 (.tmp 15) _ rfl wa4.heap.size (brow P) rfl rfl _ (zb 32) (heap_alloc_new _ _) (Tryd.szD hQl) (by rw [zb_size, brow_size, hQl]) (brow_one _) ?_)
              | (simp only [hlm]))
            obtain ⟨wb4, hwb⟩ : ∃ wb, (wa4.alloc (.cells (zb 32) 29)).setRow wa4.heap.size (brow P) = wb := ⟨_, rfl⟩
            rw [hwb] at HN4 HO4 HKb4 HN3b4 ⊢
            clear hwb
            refine (unhide HR wb4 (unhide HKb4)).mono ?_
            rintro e wa5 ⟨rfl, ka⟩
            have HKa5 := hide ((unhide HKb4).trans ka (by simp))
            have HN3b4a5 := hide (ka.heap (unhide HN3b4) (by simp))
            have HN4a5 := hide (ka.heap (unhide HN4) (by simp))
            clear ka
            have HN5 := hide (cell_new wa5 R)
            have HO5 := hide (kept_old wa5 R)
            have HKb5 := hide ((unhide HKa5).trans (unhide HO5) (by simp))
            have HN3b4b5 := hide ((unhide HO5).heap (unhide HN3b4a5) (by simp))
            have HN4b5 := hide ((unhide HO5).heap (unhide HN4a5) (by simp))
            go_wp2_with (first
              | (rw [zb32]; refine wpList_store_row rfl 29 (.tmp 16) _ rfl wa5.heap.size (brow R) rfl rfl _ (zb 32) (heap_alloc_new _ _) (Tryd.szD hRl) (by rw [zb_size, brow_size, hRl]) (brow_one _) ?_)
              | (simp only [hlm]))
            obtain ⟨wb5, hwb⟩ : ∃ wb, (wa5.alloc (.cells (zb 32) 29)).setRow wa5.heap.size (brow R) = wb := ⟨_, rfl⟩
            rw [hwb] at HN5 HO5 HKb5 HN3b4b5 HN4b5 ⊢
            clear hwb
            refine (unhide HS wb5 (unhide HKb5)).mono ?_
            rintro e wa6 ⟨rfl, ka⟩
            have HKa6 := hide ((unhide HKb5).trans ka (by simp))
            have HN3b4b5a6 := hide (ka.heap (unhide HN3b4b5) (by simp))
            have HN4b5a6 := hide (ka.heap (unhide HN4b5) (by simp))
            have HN5a6 := hide (ka.heap (unhide HN5) (by simp))
            clear ka
            have HN6 := hide (cell_new wa6 S)
            have HO6 := hide (kept_old wa6 S)
            have HKb6 := hide ((unhide HKa6).trans (unhide HO6) (by simp))
            have HN3b4b5b6 := hide ((unhide HO6).heap (unhide HN3b4b5a6) (by simp))
            have HN4b5b6 := hide ((unhide HO6).heap (unhide HN4b5a6) (by simp))
            have HN5b6 := hide ((unhide HO6).heap (unhide HN5a6) (by simp))
            go_wp2_with (first
              | (rw [zb32]; refine wpList_store_row rfl 29 (.tmp 18) _ rfl wa6.heap.size (brow S) rfl rfl _ (zb 32) (heap_alloc_new _ _) (Tryd.szD hSl) (by rw [zb_size, brow_size, hSl]) (brow_one _) ?_)
              | (refine wpList_load_rowG rfl 29 (.tmp 14) rfl wa3.heap.size rfl _ (brow P) (0, 0) _ (unhide HN3b4b5b6) Tryd.underlying29 rfl (Tryd.szD hPl) ?_)
              | (refine wpList_load_rowG rfl 29 (.tmp 15) rfl wa4.heap.size rfl _ (brow P) (0, 0) _ (unhide HN4b5b6) Tryd.underlying29 rfl (Tryd.szD hQl) ?_)
              | (refine wpList_load_rowG rfl 29 (.tmp 16) rfl wa5.heap.size rfl _ (brow R) (0, 0) _ (unhide HN5b6) Tryd.underlying29 rfl (Tryd.szD hRl) ?_)
              | (refine wpList_load_rowG rfl 29 (.tmp 18) rfl wa6.heap.size rfl _ (brow S) (0, 0) _ (unhide HN6) Tryd.underlying29 rfl (Tryd.szD hSl) ?_)
              | (simp only [hlm]))
            go_ret
            exact ⟨rfl, unhide HKb6⟩
        · have hqp : ∀ W, (Op.equalIn 10000 29 (.agg (brow P)) (.agg (brow Q))).run Tryd.prog W = .ok false W := fun W => by rw [dig_eq W P Q hPl hQl, decide_eq_false hPQ]
          refine (unhide HP wr (unhide HKR3)).mono ?_
          rintro e wa3 ⟨rfl, ka⟩
          have HKa3 := hide ((unhide HKR3).trans ka (by simp))
          clear ka
          have HN3 := hide (cell_new wa3 P)
          have HO3 := hide (kept_old wa3 P)
          have HKb3 := hide ((unhide HKa3).trans (unhide HO3) (by simp))
          go_wp2_with (first
            | (rw [zb32]; refine wpList_store_row rfl 29 (.tmp 14) _ rfl wa3.heap.size (brow P) rfl rfl _ (zb 32) (heap_alloc_new _ _) (Tryd.szD hPl) (by rw [zb_size, brow_size, hPl]) (brow_one _) ?_)
            | (simp only [hlm]))
          obtain ⟨wb3, hwb⟩ : ∃ wb, (wa3.alloc (.cells (zb 32) 29)).setRow wa3.heap.size (brow P) = wb := ⟨_, rfl⟩
          rw [hwb] at HN3 HO3 HKb3 ⊢
          clear hwb
          refine (unhide HQ wb3 (unhide HKb3)).mono ?_
          rintro e wa4 ⟨rfl, ka⟩
          have HKa4 := hide ((unhide HKb3).trans ka (by simp))
          have HN3a4 := hide (ka.heap (unhide HN3) (by simp))
          clear ka
          have HN4 := hide (cell_new wa4 Q)
          have HO4 := hide (kept_old wa4 Q)
          have HKb4 := hide ((unhide HKa4).trans (unhide HO4) (by simp))
          have HN3b4 := hide ((unhide HO4).heap (unhide HN3a4) (by simp))
          go_wp2_with (first
            | (rw [zb32]; refine wpList_store_row rfl 29 (.tmp 15) _ rfl wa4.heap.size (brow Q) rfl rfl _ (zb 32) (heap_alloc_new _ _) (Tryd.szD hQl) (by rw [zb_size, brow_size, hQl]) (brow_one _) ?_)
            | (simp only [hlm]))
          obtain ⟨wb4, hwb⟩ : ∃ wb, (wa4.alloc (.cells (zb 32) 29)).setRow wa4.heap.size (brow Q) = wb := ⟨_, rfl⟩
          rw [hwb] at HN4 HO4 HKb4 HN3b4 ⊢
          clear hwb
          refine (unhide HR wb4 (unhide HKb4)).mono ?_
          rintro e wa5 ⟨rfl, ka⟩
          have HKa5 := hide ((unhide HKb4).trans ka (by simp))
          have HN3b4a5 := hide (ka.heap (unhide HN3b4) (by simp))
          have HN4a5 := hide (ka.heap (unhide HN4) (by simp))
          clear ka
          have HN5 := hide (cell_new wa5 R)
          have HO5 := hide (kept_old wa5 R)
          have HKb5 := hide ((unhide HKa5).trans (unhide HO5) (by simp))
          have HN3b4b5 := hide ((unhide HO5).heap (unhide HN3b4a5) (by simp))
          have HN4b5 := hide ((unhide HO5).heap (unhide HN4a5) (by simp))
          go_wp2_with (first
            | (rw [zb32]; refine wpList_store_row rfl 29 (.tmp 16) _ rfl wa5.heap.size (brow R) rfl rfl _ (zb 32) (heap_alloc_new _ _) (Tryd.szD hRl) (by rw [zb_size, brow_size, hRl]) (brow_one _) ?_)
            | (simp only [hlm]))
          obtain ⟨wb5, hwb⟩ : ∃ wb, (wa5.alloc (.cells (zb 32) 29)).setRow wa5.heap.size (brow R) = wb := ⟨_, rfl⟩
          rw [hwb] at HN5 HO5 HKb5 HN3b4b5 HN4b5 ⊢
          clear hwb
          refine (unhide HS wb5 (unhide HKb5)).mono ?_
          rintro e wa6 ⟨rfl, ka⟩
          have HKa6 := hide ((unhide HKb5).trans ka (by simp))
          have HN3b4b5a6 := hide (ka.heap (unhide HN3b4b5) (by simp))
          have HN4b5a6 := hide (ka.heap (unhide HN4b5) (by simp))
          have HN5a6 := hide (ka.heap (unhide HN5) (by simp))
          clear ka
          have HN6 := hide (cell_new wa6 S)
          have HO6 := hide (kept_old wa6 S)
          have HKb6 := hide ((unhide HKa6).trans (unhide HO6) (by simp))
          have HN3b4b5b6 := hide ((unhide HO6).heap (unhide HN3b4b5a6) (by simp))
          have HN4b5b6 := hide ((unhide HO6).heap (unhide HN4b5a6) (by simp))
          have HN5b6 := hide ((unhide HO6).heap (unhide HN5a6) (by simp))
          go_wp2_with (first
            | (rw [zb32]; refine wpList_store_row rfl 29 (.tmp 18) _ rfl wa6.heap.size (brow S) rfl rfl _ (zb 32) (heap_alloc_new _ _) (Tryd.szD hSl) (by rw [zb_size, brow_size, hSl]) (brow_one _) ?_)
            | (refine wpList_load_rowG rfl 29 (.tmp 14) rfl wa3.heap.size rfl _ (brow P) (0, 0) _ (unhide HN3b4b5b6) Tryd.underlying29 rfl (Tryd.szD hPl) ?_)
            | (refine wpList_load_rowG rfl 29 (.tmp 15) rfl wa4.heap.size rfl _ (brow Q) (0, 0) _ (unhide HN4b5b6) Tryd.underlying29 rfl (Tryd.szD hQl) ?_)
            | (refine wpList_load_rowG rfl 29 (.tmp 16) rfl wa5.heap.size rfl _ (brow R) (0, 0) _ (unhide HN5b6) Tryd.underlying29 rfl (Tryd.szD hRl) ?_)
            | (refine wpList_load_rowG rfl 29 (.tmp 18) rfl wa6.heap.size rfl _ (brow S) (0, 0) _ (unhide HN6) Tryd.underlying29 rfl (Tryd.szD hSl) ?_)
            | (simp only [hlm]))
          go_ret
          exact ⟨rfl, unhide HKb6⟩
end Go.Proofs.YtcijeplafknokabDoor
namespace Go.Proofs.YtcijeplafknokabDoor
open Go.ChangeShapes Go.WideShapes Go.ChangeAt Go.RowKit Go.Deep
set_option linter.unusedVariables false
set_option linter.unusedSimpArgs false

theorem own : ownKnob Tryd.prog.godebug = none := by kernel_rfl
theorem laidOut : laidOutB Tryd.prog = true := by kernel_rfl
theorem byte_of_wf {x : Int} (h : (Lit.int .u8 x).wf = true) : 0 ≤ x ∧ x < 256 := by
  simp [Lit.wf, IntKind.min, IntKind.max, IntKind.signed, IntKind.bits] at h
  exact ⟨by omega, by omega⟩
theorem int_of_wf {x : Int} (h : (Lit.int .i64 x).wf = true) : -9223372036854775808 ≤ x ∧ x ≤ 9223372036854775807 := by
  simp [Lit.wf, IntKind.min, IntKind.max, IntKind.signed, IntKind.bits] at h
  exact ⟨by omega, by omega⟩

theorem bulk_one {H : Type} (d : DataW H) : 1 ≤ Rows.uptoBulk d := by
  cases d with
  | lit l => cases l <;> simp [Rows.uptoBulk]
  | nil => simp [Rows.uptoBulk]
  | ptr d => simp [Rows.uptoBulk]
  | slice elems spare => simp [Rows.uptoBulk]
  | agg parts => simp [Rows.uptoBulk]
  | iface t d => simp [Rows.uptoBulk]
  | map entries => simp [Rows.uptoBulk]
  | held h => simp [Rows.uptoBulk]
theorem bulk_len {H : Type} (l : List (DataW H)) : l.length ≤ Rows.uptoBulkAll l := by
  induction l with
  | nil => simp [Rows.uptoBulkAll]
  | cons x r ih => have := bulk_one x; simp only [Rows.uptoBulkAll, List.length_cons]; omega
theorem Tryd.bytes5 : Tryd.prog.bytesOf 5 = 1 := by kernel_rfl

section
variable {H : Type} {enc : TypeId × Value → H} {W : World}

/-- Bytes that came in, as the walks want them, of whatever length. -/
theorem open_bytes {fuel : Nat} {cs : List Value} {x : DataW H × List MemPlace} (h : DataW.trod enc Tryd.prog W 0 (fun _ => true) true fuel 58 cs = some x) :
    ∃ v bs, cs = [v] ∧ (bs.length ≤ 140737488355328 → Rd W v bs) ∧ ((bs = [] ∧ x.1 = .nil) ∨ ∃ elems spare, x.1 = .slice elems spare ∧ elems.length = bs.length) := by
  rcases open_ints Tryd.underlying58 Tryd.underlying5 (by kernel_rfl) h with ⟨rfl, rfl⟩ | ⟨a, len, cap, zs, rfl, _, hl, hm, hz, rfl, hcell, hwz⟩
  · exact ⟨_, [], rfl, fun _ => Rd.nil W, .inl ⟨rfl, rfl⟩⟩
  · have h2 : (lits (H := H) .u8 (zs.take len)).length = len := by simp only [lits, List.length_map, List.length_take]; simp at hz; omega
    have hbl : ((zs.take len).map Int.toNat).length = len := by simp at hz; simp; omega
    refine ⟨_, (zs.take len).map Int.toNat, rfl, fun hB => ⟨_, _, _, rfl, hbl, hl, ⟨by unfold maxLen at hm; omega, by omega⟩, by simp, ?_, ?_⟩, .inr ⟨_, _, rfl, by rw [h2, hbl]⟩⟩
    · intro y hy
      obtain ⟨z, hz1, rfl⟩ := List.mem_map.1 hy
      have := byte_of_wf (hwz z (List.mem_of_mem_take hz1)); omega
    · intro hp
      simp at hz
      have hc0 := hcell 0 (by omega)
      obtain ⟨b, off, spot⟩ := a
      have hspot : spot = none := by simpa [Addr.add] using World.cell?_spot hc0
      subst hspot
      refine ⟨b, off, rfl, fun i hi => ?_⟩
      have hc := hcell i (by omega)
      have hzi : i < zs.length := by omega
      rw [Addr.add_mid] at hc
      rw [hc]
      have hw := byte_of_wf (hwz (zs[i]) (List.getElem_mem hzi))
      simp only [List.getD_eq_getElem?_getD, List.getElem?_eq_getElem hzi, Option.getD_some, List.getElem?_map, List.getElem?_take, hi, if_true, Option.map_some]
      simp [u8]; omega
/-- Their length, by the reach. -/
theorem reach_bytes {ts : List TypeId} {ds : List (DataW H)} (h : (DataW.weightsEach Tryd.prog ts ds).all (· ≤ reachBytes) = true) {j : Nat} (ht : ts[j]? = some 58) {d : DataW H} (hd : ds[j]? = some d) {bs : List Nat}
    (hx : (bs = [] ∧ d = .nil) ∨ ∃ elems spare, d = .slice elems spare ∧ elems.length = bs.length) : bs.length ≤ 140737488351232 := by
  rcases hx with ⟨rfl, _⟩ | ⟨elems, spare, rfl, he⟩
  · simp
  · have := sized_slice h ht hd Tryd.underlying58
    rw [Tryd.bytes5, Nat.mul_one] at this
    unfold reachBytes at this
    omega
/-- Their length, by the bulk. -/
theorem bulk_bytes {d : DataW H} {bs : List Nat} (hx : (bs = [] ∧ d = .nil) ∨ ∃ elems spare, d = .slice elems spare ∧ elems.length = bs.length) : bs.length + 1 ≤ Rows.uptoBulk d := by
  rcases hx with ⟨rfl, rfl⟩ | ⟨elems, spare, rfl, he⟩
  · simp [Rows.uptoBulk]
  · have := bulk_len elems
    simp only [Rows.uptoBulk]; omega
end
end Go.Proofs.YtcijeplafknokabDoor
namespace Go.Proofs.YtcijeplafknokabDoor
open Go.RowKit
set_option linter.unusedVariables false
set_option linter.unusedSimpArgs false

/-- The slice value v reads as these numbers of 64 bits. -/
def RdQ (w : World) (v : Value) (xs : List Nat) : Prop :=
  ∃ (ao : Option Addr) (len cap : Nat), v = .slice ao len cap ∧ xs.length = len ∧ len ≤ cap ∧ cap ≤ 9223372036854775807 ∧ (∀ x ∈ xs, x < 18446744073709551616) ∧
    (0 < len → ∃ b off, ao = some ⟨b, off, none⟩ ∧ ∀ i, i < len → w.cell? ⟨b, off + i, none⟩ = some (.int .u64 ((xs.getD i 0 : Nat) : Int)))
theorem RdQ.old {w0 w : World} {v : Value} {ws : List Nat} (h : RdQ w0 v ws) (k : Kept [] w0 w) : RdQ w v ws := by
  obtain ⟨ao, len, cap, rfl, h1, h2, h3, h5, h6⟩ := h
  refine ⟨ao, len, cap, rfl, h1, h2, h3, h5, fun hp => ?_⟩
  obtain ⟨b, off, rfl, hc⟩ := h6 hp
  exact ⟨b, off, rfl, fun i hi => k.cell (hc i hi) (by simp)⟩
end Go.Proofs.YtcijeplafknokabDoor
namespace Go.Proofs.YtcijeplafknokabDoor
open Go.RowKit Go.BigFrame
set_option linter.unusedVariables false
set_option linter.unusedSimpArgs false

set_option maxRecDepth 100000 in
set_option maxHeartbeats 2000000 in
theorem mtreeBinds_go (z : Int) (lv lv2 : Value) (ls l2 : List (List Nat)) (w : World) (hz : -9223372036854775808 ≤ z ∧ z ≤ 9223372036854775807) (hl : RdD w lv ls) (hl2 : RdD w lv2 l2) (hx : ls.length ≤ 1048576) (hx2 : l2.length ≤ 1048576) (hT : Tabs w) (h6 : Tab6 w) :
    Calls Tryd.prog 4 #[.int .i64 z, lv, lv2] w fun e w' => e = .returned (.bool true) ∧ Kept [] w w' := by
  have HTB := hide hT
  have H6 := hide h6
  have HL := hide hl
  have HL2 := hide hl2
  obtain ⟨la, ll, lc, rfl, l1e, q1, q2, _⟩ := hl
  obtain ⟨a2, n2, c2, rfl, l2e, q3, q4, _⟩ := hl2
  obtain ⟨n, hn⟩ : ∃ n, min ll n2 = n := ⟨_, rfl⟩
  have hmin : min (ll : Int) (n2 : Int) = (n : Int) := by omega
  have hn1 : n ≤ ll ∧ n ≤ n2 := by omega
  have g1 : ¬ (lc : Int) < n := by omega
  have g2 : ¬ (c2 : Int) < n := by omega
  have g3 : ¬ (n : Int) < 0 := by omega
  clear hT h6
  go_enter Tryd.func4, Tryd.ntmps4
  go_wp2_with fail
  refine (mtawake_any w (unhide HTB) (unhide H6)).mono ?_
  rintro e w1 ⟨rfl, k1⟩
  have HK1 := hide k1
  clear k1
  go_wp2_with (simp only [hmin])
  have HA := hide (RdD.upto (unhide HL) n (by omega))
  have HB := hide (RdD.upto (unhide HL2) n (by omega))
  have hlA : (ls.take n).length = n := by rw [List.length_take]; omega
  have hlB : (l2.take n).length = n := by rw [List.length_take]; omega
  refine (grown_any z (.slice la n lc) (ls.take n) 6 w1 hz (by omega) ((unhide HA).old (unhide HK1)) ((unhide HTB).kept (unhide HK1) (by simp) (by simp)) ((unhide H6).kept (unhide HK1))).mono ?_
  rintro e w2 ⟨hg1, hg2, k2⟩
  have HK2 := hide ((unhide HK1).trans k2 (by simp))
  by_cases hfA : fitB z (ls.take n) = true ∧ (ls.take n).length ≤ 400
  · obtain ⟨ta, va, qa, rfl, htra, hlva, _⟩ := hg1 hfA
    clear hg1 hg2 k2
    go_wp2_with fail
    refine (grown_any z (.slice a2 n c2) (l2.take n) 1 w2 hz (by omega) ((unhide HB).old (unhide HK2)) ((unhide HTB).kept (unhide HK2) (by simp) (by simp)) ((unhide H6).kept (unhide HK2))).mono ?_
    rintro e w3 ⟨hg3, hg4, k3⟩
    have HK3 := hide ((unhide HK2).trans k3 (by simp))
    by_cases hfB : fitB z (l2.take n) = true ∧ (l2.take n).length ≤ 400
    · obtain ⟨tb, vb, qb, rfl, htrb, hlvb, _⟩ := hg3 hfB
      have HTA := hide (htra.old k3)
      have HTBB := hide htrb
      have HLA := hide hlva
      have HLB := hide hlvb
      have hn4 : n ≤ 400 := by have := hfA.2; omega
      clear hg3 hg4 k3 htra htrb hlva hlvb hfA hfB
      have HX := hide (fun W (kk : Kept [] w3 W) => (by
        have h9 := rooted_any z ta va qa n W ((unhide HTA).old kk) (by rw [unhide HLA]; omega) (by rw [unhide HLA]; omega) ((unhide HTB).kept ((unhide HK3).trans kk (by simp)) (by simp) (by simp)) ((unhide H6).kept ((unhide HK3).trans kk (by simp)))
        rw [unhide HLA] at h9
        exact h9 : Calls Tryd.prog 8 #[.pointer (some ⟨ta, 0, none⟩), .int .i64 n] W fun e w' => e = .returned (.tuple #[.agg (brow (rgD z (ls.take n) 0 n)), .bool true]) ∧ Kept [] W w'))
      have HY := hide (fun W (kk : Kept [] w3 W) => (by
        have h9 := rooted_any z tb vb qb n W ((unhide HTBB).old kk) (by rw [unhide HLB]; omega) (by rw [unhide HLB]; omega) ((unhide HTB).kept ((unhide HK3).trans kk (by simp)) (by simp) (by simp)) ((unhide H6).kept ((unhide HK3).trans kk (by simp)))
        rw [unhide HLB] at h9
        exact h9 : Calls Tryd.prog 8 #[.pointer (some ⟨tb, 0, none⟩), .int .i64 n] W fun e w' => e = .returned (.tuple #[.agg (brow (rgD z (l2.take n) 0 n)), .bool true]) ∧ Kept [] W w'))
      have hx : (rgD z (ls.take n) 0 n).length = 32 := by have h9 := (rgD_len (unhide HTA).pk 0 n).1; rw [unhide HLA] at h9; exact h9
      have hy : (rgD z (l2.take n) 0 n).length = 32 := by have h9 := (rgD_len (unhide HTBB).pk 0 n).1; rw [unhide HLB] at h9; exact h9
      have HAP := hide (fun W (kk : Kept [] w3 W) => (by
        have h9 := apartT_any z ta tb va vb qa qb 0 n W ((unhide HTA).old kk) ((unhide HTBB).old kk) (by omega) (by rw [unhide HLA]; omega) (by rw [unhide HLB]; omega) (by rw [unhide HLA]; omega) (by rw [unhide HLB]; omega)
        rw [unhide HLA, unhide HLB] at h9
        exact h9 : Calls Tryd.prog 12 #[.pointer (some ⟨ta, 0, none⟩), .pointer (some ⟨tb, 0, none⟩), .int .u64 ((0 : Nat) : Int), .int .u64 (n : Int)] W fun e w' => e = .returned (.bool (decide (seg (ls.take n) 0 n ≠ seg (l2.take n) 0 n))) ∧ Kept [] W w'))
      have HDF := hide (fun (e9 : rgD z (ls.take n) 0 n = rgD z (l2.take n) 0 n) (n9 : seg (ls.take n) 0 n ≠ seg (l2.take n) 0 n) W (kk : Kept [] w3 W) => (by
        have h9 := differT_any z ta tb va vb qa qb 0 n W ((unhide HTA).old kk) ((unhide HTBB).old kk) (by omega) (by rw [unhide HLA]; omega) (by rw [unhide HLB]; omega) (by rw [unhide HLA]; omega) (by rw [unhide HLB]; omega) (by omega)
          (by rw [unhide HLA, unhide HLB]; rw [show rgD z (ls.take n) 0 n = rngD z (noT z) (ls.take n) 0 n from if_neg (by omega), show rgD z (l2.take n) 0 n = rngD z (noT z) (l2.take n) 0 n from if_neg (by omega)] at e9; exact e9)
          (by rw [unhide HLA, unhide HLB]; exact n9) ((unhide HTB).kept ((unhide HK3).trans kk (by simp)) (by simp) (by simp)) ((unhide H6).kept ((unhide HK3).trans kk (by simp)))
        exact h9 : Calls Tryd.prog 13 #[.pointer (some ⟨ta, 0, none⟩), .pointer (some ⟨tb, 0, none⟩), .int .u64 ((0 : Nat) : Int), .int .u64 (n : Int)] W fun e w' => e = .returned (.bool true) ∧ Kept [] W w'))
      have HSQ := hide (fun (e9 : seg (ls.take n) 0 n = seg (l2.take n) 0 n) => (by
        have h8 : ∀ L : List (List Nat), seg (L.take n) 0 n = L.take n := fun L => by unfold seg; rw [List.drop_zero, Nat.sub_zero, List.take_take, Nat.min_self]
        rw [h8, h8] at e9
        rw [e9] : rgD z (ls.take n) 0 n = rgD z (l2.take n) 0 n))
      generalize rgD z (ls.take n) 0 n = X at HX hx HDF HSQ
      generalize rgD z (l2.take n) 0 n = Y at HY hy HDF HSQ
      have HK3r := hide (Kept.refl [] w3)
      have hwn : IntKind.u64.wrap (n : Int) = (n : Int) := by rw [wrU]; omega
      go_wp2_with fail
      refine (unhide HX w3 (unhide HK3r)).mono ?_
      rintro e wa1 ⟨rfl, ka⟩
      have HKa1 := hide ((unhide HK3r).trans ka (by simp))
      clear ka
      have HN1 := hide (cell_new wa1 X)
      have HO1 := hide (kept_old wa1 X)
      have HKb1 := hide ((unhide HKa1).trans (unhide HO1) (by simp))
      go_wp2_with (first
        | (rw [zb32]; refine wpList_store_row rfl 29 (.tmp 12) _ rfl wa1.heap.size (brow X) rfl rfl _ (zb 32) (heap_alloc_new _ _) (Tryd.szD hx) (by rw [zb_size, brow_size, hx]) (brow_one _) ?_))
      obtain ⟨wb1, hwb⟩ : ∃ wb, (wa1.alloc (.cells (zb 32) 29)).setRow wa1.heap.size (brow X) = wb := ⟨_, rfl⟩
      rw [hwb] at HN1 HO1 HKb1 ⊢
      clear hwb
      refine (unhide HY wb1 (unhide HKb1)).mono ?_
      rintro e wa2 ⟨rfl, ka⟩
      have HKa2 := hide ((unhide HKb1).trans ka (by simp))
      have HN1a2 := hide (ka.heap (unhide HN1) (by simp))
      clear ka
      have HN2 := hide (cell_new wa2 Y)
      have HO2 := hide (kept_old wa2 Y)
      have HKb2 := hide ((unhide HKa2).trans (unhide HO2) (by simp))
      have HN1b2 := hide ((unhide HO2).heap (unhide HN1a2) (by simp))
      go_wp2_with (first
        | (rw [zb32]; refine wpList_store_row rfl 29 (.tmp 13) _ rfl wa2.heap.size (brow Y) rfl rfl _ (zb 32) (heap_alloc_new _ _) (Tryd.szD hy) (by rw [zb_size, brow_size, hy]) (brow_one _) ?_)
        | (simp only [hwn]))
      obtain ⟨wb2, hwb⟩ : ∃ wb, (wa2.alloc (.cells (zb 32) 29)).setRow wa2.heap.size (brow Y) = wb := ⟨_, rfl⟩
      rw [hwb] at HN2 HO2 HKb2 HN1b2 ⊢
      clear hwb
      refine (unhide HAP wb2 (unhide HKb2)).mono ?_
      rintro e w5 ⟨rfl, k5⟩
      have HKc := hide ((unhide HKb2).trans k5 (by simp))
      have HP := hide (k5.heap (unhide HN1b2) (by simp))
      have HQ := hide (k5.heap (unhide HN2) (by simp))
      have HKF := hide ((unhide HK3).trans (unhide HKc) (by simp))
      clear k5 HAP
      by_cases hsg : seg (ls.take n) 0 n = seg (l2.take n) 0 n
      · have hXY := unhide HSQ hsg
        subst hXY
        rw [decide_eq_false (by simpa using hsg)]
        have hq := fun W => dig_same X hx W
        go_wp2_with (first
        | (refine wpList_load_rowG rfl 29 (.tmp 12) rfl wa1.heap.size rfl _ (brow X) (0, 0) _ (unhide HP) Tryd.underlying29 rfl (Tryd.szD hx) ?_)
        | (refine wpList_load_rowG rfl 29 (.tmp 13) rfl wa2.heap.size rfl _ (brow X) (0, 0) _ (unhide HQ) Tryd.underlying29 rfl (Tryd.szD hx) ?_))
        go_ret
        exact ⟨rfl, unhide HKF⟩
      · rw [decide_eq_true hsg]
        by_cases hXY : X = Y
        · have HD := hide (unhide HDF hXY hsg)
          subst hXY
          have hq := fun W => dig_same X hx W
          go_wp2_with (first
          | (refine wpList_load_rowG rfl 29 (.tmp 12) rfl wa1.heap.size rfl _ (brow X) (0, 0) _ (unhide HP) Tryd.underlying29 rfl (Tryd.szD hx) ?_)
          | (refine wpList_load_rowG rfl 29 (.tmp 13) rfl wa2.heap.size rfl _ (brow X) (0, 0) _ (unhide HQ) Tryd.underlying29 rfl (Tryd.szD hx) ?_)
            | (simp only [hwn]))
          refine (unhide HD w5 (unhide HKc)).mono ?_
          rintro e w6 ⟨rfl, k6⟩
          have HKG := hide ((unhide HKF).trans k6 (by simp))
          clear k6
          go_wp2_with fail
          go_ret
          exact ⟨rfl, unhide HKG⟩
        · have hq : ∀ W, (Op.equalIn 10000 29 (.agg (brow X)) (.agg (brow Y))).run Tryd.prog W = .ok false W := fun W => by rw [dig_eq W X Y hx hy, decide_eq_false hXY]
          go_wp2_with (first
          | (refine wpList_load_rowG rfl 29 (.tmp 12) rfl wa1.heap.size rfl _ (brow X) (0, 0) _ (unhide HP) Tryd.underlying29 rfl (Tryd.szD hx) ?_)
          | (refine wpList_load_rowG rfl 29 (.tmp 13) rfl wa2.heap.size rfl _ (brow Y) (0, 0) _ (unhide HQ) Tryd.underlying29 rfl (Tryd.szD hy) ?_))
          go_ret
          exact ⟨rfl, unhide HKF⟩
    · obtain rfl := hg4 hfB
      clear hg3 hg4 k3
      go_wp2_with fail
      go_ret
      exact ⟨rfl, unhide HK3⟩
  · obtain rfl := hg2 hfA
    clear hg1 hg2 k2
    go_wp2_with fail
    refine (grown_any z (.slice a2 n c2) (l2.take n) 1 w2 hz (by omega) ((unhide HB).old (unhide HK2)) ((unhide HTB).kept (unhide HK2) (by simp) (by simp)) ((unhide H6).kept (unhide HK2))).mono ?_
    rintro e w3 ⟨hg3, hg4, k3⟩
    have HK3 := hide ((unhide HK2).trans k3 (by simp))
    by_cases hfB : fitB z (l2.take n) = true ∧ (l2.take n).length ≤ 400
    · obtain ⟨tb, vb, qb, rfl, htrb, hlvb, _⟩ := hg3 hfB
      clear hg3 hg4 k3
      go_wp2_with fail
      go_ret
      exact ⟨rfl, unhide HK3⟩
    · obtain rfl := hg4 hfB
      clear hg3 hg4 k3
      go_wp2_with fail
      go_ret
      exact ⟨rfl, unhide HK3⟩

theorem mtreeBinds_walk (z : Int) (lv : Value) (ls : List (List Nat)) (lv2 : Value) (l2 : List (List Nat)) (w : World) (hz : -9223372036854775808 ≤ z ∧ z ≤ 9223372036854775807) (hl : RdD w lv ls) (hx : ls.length ≤ 1048576) (hl2 : RdD w lv2 l2) (hx2 : l2.length ≤ 1048576) (h : Tabs w ∧ Tab6 w) :
    Calls Tryd.prog 4 #[.int .i64 z, lv, lv2] w fun e w' => e = .returned (.bool true) ∧ Below w.heap.size w w' :=
  (mtreeBinds_go z lv lv2 ls l2 w hz hl hl2 hx hx2 h.1 h.2).mono fun e w' h9 => ⟨h9.1, h9.2.below (Nat.le_refl _) (by simp)⟩
end Go.Proofs.YtcijeplafknokabDoor
namespace Go.Proofs.YtcijeplafknokabDoor
open Go Go.RowKit
set_option linter.unusedVariables false
set_option linter.unusedSimpArgs false
section
variable {H : Type} {enc : TypeId × Value → H} {W : World}

def natOf : Value → Nat
  | .int _ n => n.toNat
  | _ => 0
/-- A digest that came in. -/
theorem open_dig {fuel : Nat} {cs : List Value} {x : DataW H × List MemPlace} (h : DataW.trod enc Tryd.prog W 0 (fun _ => true) true fuel 29 cs = some x) :
    ∃ l : List Nat, cs = l.map u8 ∧ l.length = 32 ∧ ∀ y ∈ l, y < 256 := by
  obtain ⟨xs, m, _, rfl, hl, hn, hc⟩ := DataW.trod_array Tryd.underlying29 h
  rw [show Tryd.prog.cellsOf 29 = 32 from by kernel_rfl] at hl
  rw [show Tryd.prog.cellsOf 5 = 1 from by kernel_rfl] at hc
  have key : ∀ i (hi : i < cs.length), cs[i] = u8 (natOf cs[i]) ∧ natOf cs[i] < 256 := by
    intro i hi
    have h1 := hc i (by omega)
    rw [Nat.mul_one, List.getElem?_eq_getElem (by omega)] at h1
    obtain ⟨n, e, _, hw⟩ := DataW.trod_int Tryd.underlying5 h1
    rw [List.drop_eq_getElem_cons hi, List.take_succ_cons, List.take_zero] at e
    simp only [List.cons.injEq, and_true] at e
    have := byte_of_wf hw
    rw [e]
    refine ⟨?_, ?_⟩
    · simp [u8, natOf]; omega
    · simp [natOf]; omega
  refine ⟨cs.map natOf, ?_, by simp [hl], ?_⟩
  · rw [List.map_map]
    refine List.ext_getElem (by simp) fun i h1 h2 => ?_
    rw [List.getElem_map]
    exact (key i h1).1
  · intro y hy
    obtain ⟨v, hv, rfl⟩ := List.mem_map.1 hy
    obtain ⟨i, hi, rfl⟩ := List.getElem_of_mem hv
    exact (key i hi).2
set_option maxRecDepth 100000 in
theorem open_digv {b0 : Nat} {v : Value} {d : DataW H} {ps : List MemPlace} (hv : Value.okWide Tryd.prog W .any b0 29 v) (h : DataW.Trod enc Tryd.prog W 0 (fun _ => true) true 29 v d ps) :
    ∃ l : List Nat, v = .agg (brow l) ∧ l.length = 32 ∧ ∀ y ∈ l, y < 256 := by
  unfold Value.okWide at hv
  rw [Tryd.underlying29] at hv
  obtain ⟨cs, rfl, _, _⟩ := hv
  obtain ⟨fuel, hf⟩ := h
  obtain ⟨l, e, h1, h2⟩ := open_dig hf
  refine ⟨l, ?_, h1, h2⟩
  simp only [Value.cells] at e
  unfold brow
  rw [← e]
end
end Go.Proofs.YtcijeplafknokabDoor
namespace Go.Proofs.YtcijeplafknokabDoor
open Go.ChangeShapes Go.WideShapes Go.ChangeAt Go.RowKit Go.Deep
set_option linter.unusedVariables false
set_option linter.unusedSimpArgs false
section
variable {H : Type} {enc : TypeId × Value → H} {W : World}

/-- Digests that came in. -/
theorem open_digs2 {fuel : Nat} {cs : List Value} {x : DataW H × List MemPlace} (h : DataW.trod enc Tryd.prog W 0 (fun _ => true) true fuel 22 cs = some x) (hB : Rows.uptoBulk x.1 ≤ 1048576) :
    ∃ v ds, cs = [v] ∧ RdD W v ds ∧ ds.length ≤ 1048576 := by
  rcases open_slice Tryd.underlying22 h with ⟨rfl, rfl⟩ | ⟨a, len, cap, m, n, D, Pl, rfl, _, hl, hm, hmm, rfl, hx⟩
  · exact ⟨_, [], rfl, ⟨none, 0, 0, rfl, rfl, Nat.le_refl _, by omega, fun d hd => by simp at hd, fun h => by omega⟩, by simp⟩
  · have hC : Tryd.prog.cellsOf 29 = 32 := by kernel_rfl
    rw [hC] at hx
    simp only [if_true] at hmm
    simp only [Rows.uptoBulk] at hB
    have hcap : cap ≤ 1048576 := by
      have h1 := bulk_len ((List.range len).map D)
      have h2 := bulk_len ((List.range (m - len)).map fun j => D (len + j))
      simp at h1 h2
      omega
    obtain ⟨f, hf⟩ := choose_lt (α := List Nat) (n := len) (p := fun i o => (∀ j v, (o.map u8)[j]? = some v → W.cell? ((a.add (i * 32)).add j) = some v) ∧ o.length = 32 ∧ ∀ y ∈ o, y < 256) (by
      intro i hi
      obtain ⟨cs', h1, h2⟩ := hx i (by omega)
      obtain ⟨l, rfl, hl1, hl2⟩ := open_dig h2
      obtain ⟨_, hlen, hc⟩ := World.cells?_some h1
      refine ⟨l, fun j v hv => ?_, hl1, hl2⟩
      have hj := (List.getElem?_eq_some_iff.1 hv).1
      have := hc j (by rw [List.length_map] at hj; omega)
      rw [this, ← hv, List.getElem?_eq_getElem hj])
    refine ⟨_, (List.range len).map f, rfl, ⟨some a, len, cap, rfl, by simp, hl, by omega, ?_, ?_⟩, by simp; omega⟩
    · intro d hd
      obtain ⟨i, hi, rfl⟩ := List.mem_map.1 hd
      exact (hf i (List.mem_range.1 hi)).2
    · intro hp
      obtain ⟨b, off, spot⟩ := a
      have h0 := hf 0 hp
      have hc0 := h0.1 0 (u8 ((f 0).getD 0 0)) (by rw [List.getElem?_map, List.getD_eq_getElem?_getD, List.getElem?_eq_getElem (by omega)]; rfl)
      have hspot : spot = none := by simpa [Addr.add] using World.cell?_spot hc0
      subst hspot
      refine ⟨b, off, rfl, fun i hi j v hv => ?_⟩
      have e9 : ((List.range len).map f).getD i [] = f i := by simp [List.getD_eq_getElem?_getD, hi]
      rw [e9] at hv
      have := (hf i hi).1 j v hv
      rw [Addr.add_mid, Addr.add_mid] at this
      exact this

end
end Go.Proofs.YtcijeplafknokabDoor
