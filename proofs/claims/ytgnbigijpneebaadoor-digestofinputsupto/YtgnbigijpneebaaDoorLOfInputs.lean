import Derived.Test.YtgnbigijpneebaaDoorBunH
namespace Go.Proofs.YtgnbigijpneebaaDoor
open Go.RowKit Go.BigFrame
set_option linter.unusedVariables false
set_option linter.unusedSimpArgs false

theorem opF_def (o : OpD) : opF o = sunE (inE o) o.z := rfl
theorem opS_def (o : OpD) : opS o = sunD (inE o) o.z (inB o) := rfl

set_option maxRecDepth 100000 in
set_option maxHeartbeats 2000000 in
theorem digestOfInputs_walk (v : Value) (os : List OpD) (w : World) (hv : RdO w v os) (hT : Tabs w) :
    Calls Tryd.prog 6 #[v] w fun e w' => e = .returned (.bool true) ∧ Below w.heap.size w w' := by
  obtain ⟨ao, len, cap, pv, kv, dv, rfl, h1, h2, h3, h4, h5⟩ := hv
  have H4 := hide h4
  have H5 := hide h5
  clear h4 h5
  subst h1
  have HT := hide hT
  clear hT
  have hz0 := zero_op
  go_enter Tryd.func6, Tryd.ntmps6
  go_wp2_with fail
  refine Calls.mono (dawake_any _ (unhide HT)) ?_
  rintro e w1 ⟨rfl, k1⟩
  have HK1 := hide k1
  clear k1
  go_wp2_with fail
  go_loopw [15] (fun t13 wr => ∃ (i : Nat), i ≤ os.length ∧ t13 = .int .i64 i ∧ Hid (Kept [] w wr)) (fun t _ => os.length - (intOf t).toNat)
  case atStart => exact ⟨0, Nat.zero_le _, rfl, HK1⟩
  case round =>
    obtain ⟨i, hi, rfl, HK⟩ := hrel
    by_cases hlt : i < os.length
    · have hlt' : (i : Int) < os.length := by omega
      obtain ⟨b, off, rfl, hcc⟩ := unhide H5 (by omega)
      have HRG := hide (range_kept (hcc i hlt) (unhide HK) (by simp))
      have HO := hide ((unhide H4 i hlt).old (unhide HK))
      clear hcc
      generalize pv i = pi at HRG HO
      generalize kv i = ki at HRG HO
      generalize dv i = di at HRG HO
      generalize os[i] = o at HRG HO
      have hcl := opC_len (pv := pi) (kv := ki) (dv := di) (unhide HO).l.1 (unhide HO).r.1 (unhide HO).lg.1 (unhide HO).mp.1
      have HC1 := hide (opC_one (unhide HO))
      have HSZ := hide (by rw [hcl]; exact Tryd.size_op : (Tryd.prog.info? 34).map (·.size) = some (opC o pi ki di).length)
      have HSA := hide (by rw [List.size_toArray, hcl]; exact Tryd.size_op : (Tryd.prog.info? 34).map (·.size) = some (opC o pi ki di).toArray.size)
      have HZA := hide (by rw [zop_size, List.size_toArray, hcl] : zop.size = (opC o pi ki di).toArray.size)
      have k1 := (((Kept.refl [] wr).alloc (.cells zop 34)).setRow (g := wr.heap.size) (Or.inr (Nat.le_refl _)) (opC o pi ki di).toArray)
      have HNW := hide (setRow_heap (wr.alloc (.cells zop 34)) wr.heap.size zop (opC o pi ki di).toArray 34 (0, 0) (heap_alloc_new _ _))
      have HKW := hide ((unhide HK).trans k1 (by simp))
      have HOW := hide ((unhide HO).old k1)
      clear k1 hcl
      go_wp2_with (first
        | (refine wpList_load_mid rfl 34 _ rfl b (off + i * 135) rfl (opC o pi ki di) _ (unhide HRG) Tryd.underlying34 rfl (unhide HSZ) ?_)
        | (refine wpList_store_row rfl 34 _ _ rfl wr.heap.size (opC o pi ki di).toArray rfl rfl _ zop (heap_alloc_new _ _) (unhide HSA) (unhide HZA) (unhide HC1) ?_)
        | (refine wpList_load_row rfl 34 _ rfl wr.heap.size rfl _ (opC o pi ki di).toArray (0, 0) _ (unhide HNW) Tryd.underlying34 rfl (unhide HSA) ?_))
      refine Calls.mono (known_any o pi ki di _ (unhide HOW)) ?_
      rintro e w2 ⟨rfl, k2⟩
      have HK2 := hide ((unhide HKW).trans k2 (by simp))
      have HN2 := hide (k2.heap (unhide HNW) (by simp))
      have HO2 := hide ((unhide HOW).old k2)
      clear k2
      by_cases hk : 1 ≤ o.kd ∧ o.kd ≤ 6
      · rw [decide_eq_true hk]
        go_wp2_with (refine wpList_load_row rfl 34 _ rfl wr.heap.size rfl _ (opC o pi ki di).toArray (0, 0) _ (unhide HN2) Tryd.underlying34 rfl (unhide HSA) ?_)
        refine Calls.mono (input_any o pi ki di _ (unhide HO2) hk) ?_
        rintro e w3 ⟨v3, rfl, n3, k3⟩
        have HK3 := hide ((unhide HK2).trans k3 (by simp))
        have HN3 := hide (k3.heap (unhide HN2) (by simp))
        have HO3 := hide ((unhide HO2).old k3)
        have HP3 := hide n3.1
        clear n3 k3
        have HSE := hide (opF_def o)
        have HSS := hide (opS_def o)
        have HBD := hide (opS_bad o)
        obtain ⟨I, hI⟩ : ∃ I, inE o = I := ⟨_, rfl⟩
        rw [hI] at HP3 HSE HSS ⊢
        clear hI
        obtain ⟨B, hB⟩ : ∃ B, (if I = 0 then inB o else []) = B := ⟨_, rfl⟩
        have HB := hide hB
        rw [hB] at HP3
        clear hB
        have hol := opS_len o
        obtain ⟨D, hD⟩ : ∃ D, opS o = D := ⟨_, rfl⟩
        obtain ⟨E, hE⟩ : ∃ E, opF o = E := ⟨_, rfl⟩
        rw [hD] at hol HSS HBD
        rw [hE] at HSE HBD
        have HD := hide hD
        have HE := hide hE
        clear hD hE
        have HSZD := hide (Tryd.szD hol)
        have HOZ := hide (unhide HO3).z
        obtain ⟨a3, m3, c3, hu3, _⟩ := id (unhide HP3)
        subst hu3
        go_wp2_with (refine wpList_load_row rfl 34 _ rfl wr.heap.size rfl _ (opC o pi ki di).toArray (0, 0) _ (unhide HN3) Tryd.underlying34 rfl (unhide HSA) ?_)
        refine Calls.mono (sum_any o pi ki di _ (unhide HO3) hk ((unhide HT).k (unhide HK3))) ?_
        rintro e w4 ⟨rfl, k4⟩
        rw [unhide HD, unhide HE]
        have HN4 := hide ((kept_old w4 D).heap (k4.heap (unhide HN3) (by simp)) (by simp))
        have cz := (op_cells (unhide HN4) (unhide HO).l.1 (unhide HO).r.1).1.2.1
        have HP4 := hide (((unhide HP3).old k4 (by simp)).old (kept_old w4 D) (by simp))
        have HK4 := hide (kept_new ((unhide HK3).trans k4 (by simp)) D)
        have HC4 := hide (cell_new w4 D)
        clear k4
        go_wp2_with (rw [zb32]; refine wpList_store_row rfl 26 _ _ rfl w4.heap.size (brow D) rfl rfl _ (zb 32) (heap_alloc_new _ _) (unhide HSZD) (by rw [zb_size, brow_size, hol]) (brow_one _) ?_)
        have HW4 := hide (by rw [World.setRow_alloc_new]; exact Array.size_push _ : ((w4.alloc (.cells (zb 32) 26)).setRow w4.heap.size (brow D)).heap.size = w4.heap.size + 1)
        obtain ⟨W4, hW4⟩ : ∃ W, (w4.alloc (.cells (zb 32) 26)).setRow w4.heap.size (brow D) = W := ⟨_, rfl⟩
        rw [hW4] at HN4 cz HP4 HK4 HC4 HW4 ⊢
        clear hW4
        refine Calls.mono (dsum_all o.z _ [B] _ (unhide HOZ) (RdL.one (by have h9 := heap_alloc_new W4 (.cells #[.slice a3 m3 c3] 24); rw [unhide HW4] at h9; exact h9) ((unhide HP4).old ((Kept.refl [] _).alloc _) (by simp))) (by have h9 := (unhide HP4).len; simpa using h9) ((unhide HT).k ((unhide HK4).alloc _))) ?_
        rintro e w5 ⟨rfl, k5⟩
        rw [show ([B] : List (List Nat)).flatten = B by simp]
        have hsl := sumD_len o.z B
        obtain ⟨S, hS⟩ : ∃ S, sumD o.z B = S := ⟨_, rfl⟩
        obtain ⟨G, hG⟩ : ∃ G, sumE o.z = G := ⟨_, rfl⟩
        rw [hS] at hsl ⊢
        rw [hG]
        have HS := hide hS
        have HG := hide hG
        clear hS hG cz
        have HSZS := hide (Tryd.szD hsl)
        have HC5 := hide ((kept_old w5 S).heap (k5.heap (((Kept.refl [] W4).alloc _).heap (unhide HC4) (by simp)) (by simp)) (by simp))
        have HF5 := hide (cell_new w5 S)
        have HK5 := hide (kept_new (((unhide HK4).alloc _).trans k5 (by simp)) S)
        clear k5 HC4 HN4 HP4
        by_cases hI0 : I = 0
        · have hb : ((I : Int) == 0) = true := by rw [hI0]; rfl
          have hGE : G = E := by rw [unhide HSE, ← unhide HG]; unfold sunE; rw [if_pos hI0]
          have hSD : S = D := by rw [unhide HSS, ← unhide HS, ← unhide HB]; unfold sunD; rw [if_pos hI0, if_pos hI0]
          subst hSD
          subst hGE
          have HI0 := hide hI0
          clear hI0
          have hee : ((G : Int) != (G : Int)) = false := by simp
          by_cases hG0 : G = 0
          · have hb1 : ((G : Int) == 0) = true := by rw [hG0]; rfl
            have hb2 : ((G : Int) != 0) = false := by rw [hG0]; rfl
            have hqd : ∀ W, (Op.equalIn 10000 26 (.agg (brow S)) (.agg (brow S))).run Tryd.prog W = .ok true W := dig_same S hsl
            have HG0 := hide hG0
            clear hG0
            go_wp2_with (first
              | (rw [zb32]; refine wpList_store_row rfl 26 _ _ rfl w5.heap.size (brow S) rfl rfl _ (zb 32) (heap_alloc_new _ _) (unhide HSZS) (by rw [zb_size, brow_size, hsl]) (brow_one _) ?_)
              | (refine wpList_load_rowG rfl 26 _ rfl w4.heap.size rfl _ (brow S) (0, 0) _ (unhide HC5) Tryd.underlying26 rfl (unhide HSZS) ?_)
              | (refine wpList_load_rowG rfl 26 _ rfl w5.heap.size rfl _ (brow S) (0, 0) _ (unhide HF5) Tryd.underlying26 rfl (unhide HSZS) ?_))
            refine ⟨⟨i + 1, by omega, by go_num, HK5⟩, ?_⟩
            simp [intOf]; omega
          · have hb1 : ((G : Int) == 0) = false := by rw [beq_eq_false_iff_ne]; omega
            have hb2 : ((G : Int) != 0) = true := by rw [bne_iff_ne]; omega
            have hqd := eq_zero S (unhide HBD hG0)
            have HG0 := hide hG0
            clear hG0
            go_wp2_with (first
              | (rw [zb32]; refine wpList_store_row rfl 26 _ _ rfl w5.heap.size (brow S) rfl rfl _ (zb 32) (heap_alloc_new _ _) (unhide HSZS) (by rw [zb_size, brow_size, hsl]) (brow_one _) ?_)
              | (refine wpList_load_rowG rfl 26 _ rfl w4.heap.size rfl _ (brow S) (0, 0) _ (unhide HC5) Tryd.underlying26 rfl (unhide HSZS) ?_)
              | (refine wpList_load_rowG rfl 26 _ rfl w5.heap.size rfl _ (brow S) (0, 0) _ (unhide HF5) Tryd.underlying26 rfl (unhide HSZS) ?_))
            refine ⟨⟨i + 1, by omega, by go_num, HK5⟩, ?_⟩
            simp [intOf]; omega
        · have hb : ((I : Int) == 0) = false := by rw [beq_eq_false_iff_ne]; omega
          have hb2 : ((I : Int) != 0) = true := by rw [bne_iff_ne]; omega
          have hIE : I = E := by rw [unhide HSE]; unfold sunE; rw [if_neg hI0]
          subst hIE
          have hee : ((I : Int) != (I : Int)) = false := by simp
          have hqd := eq_zero D (unhide HBD hI0)
          have HI0 := hide hI0
          clear hI0
          go_wp2_with (first
            | (rw [zb32]; refine wpList_store_row rfl 26 _ _ rfl w5.heap.size (brow S) rfl rfl _ (zb 32) (heap_alloc_new _ _) (unhide HSZS) (by rw [zb_size, brow_size, hsl]) (brow_one _) ?_)
            | (refine wpList_load_rowG rfl 26 _ rfl w4.heap.size rfl _ (brow D) (0, 0) _ (unhide HC5) Tryd.underlying26 rfl (unhide HSZD) ?_)
            | (refine wpList_load_rowG rfl 26 _ rfl w5.heap.size rfl _ (brow S) (0, 0) _ (unhide HF5) Tryd.underlying26 rfl (unhide HSZS) ?_))
          refine ⟨⟨i + 1, by omega, by go_num, HK5⟩, ?_⟩
          simp [intOf]; omega
      · rw [decide_eq_false hk]
        clear hk
        go_wp2
        refine ⟨⟨i + 1, by omega, by go_num, HK2⟩, ?_⟩
        simp [intOf]; omega
    · have hlt' : ¬ (i : Int) < os.length := by omega
      go_wp2
      go_ret
      exact ⟨rfl, (unhide HK).below (Nat.le_refl _) (by simp)⟩
end Go.Proofs.YtgnbigijpneebaaDoor
