import Derived.Test.YtgnbigijpneebaaDoorBunH
namespace Go.Proofs.YtgnbigijpneebaaDoor
open Go.RowKit Go.BigFrame
set_option linter.unusedVariables false
set_option linter.unusedSimpArgs false

def dLeaf : List Nat := 110 :: 52 :: 11 :: 156 :: List.replicate 28 0
theorem lit_leaf : (#[.int .u8 110, .int .u8 52, .int .u8 11, .int .u8 156, .int .u8 0, .int .u8 0, .int .u8 0, .int .u8 0, .int .u8 0, .int .u8 0, .int .u8 0, .int .u8 0, .int .u8 0, .int .u8 0, .int .u8 0, .int .u8 0, .int .u8 0, .int .u8 0, .int .u8 0, .int .u8 0, .int .u8 0, .int .u8 0, .int .u8 0, .int .u8 0, .int .u8 0, .int .u8 0, .int .u8 0, .int .u8 0, .int .u8 0, .int .u8 0, .int .u8 0, .int .u8 0] : Array Value) = brow dLeaf := rfl
theorem leaf_dig : sumD 4 [0] = dLeaf := by
  unfold sumD hash hashW
  rw [if_pos (by decide)]
  have e : [0] ++ pad [0].length = [0, 128] ++ List.replicate 61 0 ++ [8] := by decide
  rw [e, chain_step (by decide), chain_short (by decide), ← evC_eq]
  decide +kernel

set_option maxRecDepth 100000 in
set_option maxHeartbeats 2000000 in
theorem digestDigests_walk (v : Value) (os : List OpD) (w : World) (hv : RdO w v os) (hT : Tabs w) :
    Calls Tryd.prog 4 #[v] w fun e w' => e = .returned (.bool true) ∧ Below w.heap.size w w' := by
  obtain ⟨ao, len, cap, pv, kv, dv, rfl, h1, h2, h3, h4, h5⟩ := hv
  have H4 := hide h4
  have H5 := hide h5
  clear h4 h5
  subst h1
  have HT := hide hT
  clear hT
  have hz0 := zero_op
  have hdl : dLeaf.length = 32 := rfl
  have HSD := hide (Tryd.szD hdl)
  have hqd : ∀ W, (Op.equalIn 10000 26 (.agg (brow dLeaf)) (.agg #[.int .u8 110, .int .u8 52, .int .u8 11, .int .u8 156, .int .u8 0, .int .u8 0, .int .u8 0, .int .u8 0, .int .u8 0, .int .u8 0, .int .u8 0, .int .u8 0, .int .u8 0, .int .u8 0, .int .u8 0, .int .u8 0, .int .u8 0, .int .u8 0, .int .u8 0, .int .u8 0, .int .u8 0, .int .u8 0, .int .u8 0, .int .u8 0, .int .u8 0, .int .u8 0, .int .u8 0, .int .u8 0, .int .u8 0, .int .u8 0, .int .u8 0, .int .u8 0])).run Tryd.prog W = .ok true W := by
    intro W
    rw [lit_leaf]
    exact dig_same dLeaf hdl W
  go_enter Tryd.func4, Tryd.ntmps4
  go_wp2_with fail
  refine Calls.mono (leaf_all 4 (.slice none 0 0) [] w (by decide) (Rd.nil _) (by simp) (unhide HT)) ?_
  rintro e w0 ⟨rfl, k0⟩
  rw [leaf_dig, show sumE 4 = 0 from rfl]
  have HC0 := hide (cell_new w0 dLeaf)
  have HK0 := hide (kept_new k0 dLeaf)
  clear k0
  go_wp2_with (first
    | (rw [zb32]; refine wpList_store_row rfl 26 _ _ rfl w0.heap.size (brow dLeaf) rfl rfl _ (zb 32) (heap_alloc_new _ _) (unhide HSD) (by rw [zb_size, brow_size]; rfl) (brow_one _) ?_)
    | (refine wpList_load_rowG rfl 26 _ rfl w0.heap.size rfl _ (brow dLeaf) (0, 0) _ (unhide HC0) Tryd.underlying26 rfl (unhide HSD) ?_))
  refine Calls.mono (dawake_any _ ((unhide HT).k (unhide HK0))) ?_
  rintro e w1 ⟨rfl, k1⟩
  have HK1 := hide ((unhide HK0).trans k1 (by simp))
  clear k1 HC0 HK0 hqd
  go_wp2_with fail
  go_loopw [28] (fun t13 wr => ∃ (i : Nat), i ≤ os.length ∧ t13 = .int .i64 i ∧ Hid (Kept [] w wr)) (fun t _ => os.length - (intOf t).toNat)
  case atStart => exact ⟨0, Nat.zero_le _, rfl, HK1⟩
  case round =>
    obtain ⟨i, hi, rfl, HK⟩ := hrel
    by_cases hlt : i < os.length
    · have hlt' : (i : Int) < os.length := by omega
      obtain ⟨b, off, rfl, hcc⟩ := unhide H5 (by omega)
      have HRG := hide (range_kept (hcc i hlt) (unhide HK) (by simp))
      have HO := hide ((unhide H4 i hlt).old (unhide HK))
      clear hcc
      generalize pv i = pi at HRG HO
      generalize kv i = ki at HRG HO
      generalize dv i = di at HRG HO
      generalize os[i] = o at HRG HO
      have hcl := opC_len (pv := pi) (kv := ki) (dv := di) (unhide HO).l.1 (unhide HO).r.1 (unhide HO).lg.1 (unhide HO).mp.1
      have HC1 := hide (opC_one (unhide HO))
      have HSZ := hide (by rw [hcl]; exact Tryd.size_op : (Tryd.prog.info? 34).map (·.size) = some (opC o pi ki di).length)
      have HSA := hide (by rw [List.size_toArray, hcl]; exact Tryd.size_op : (Tryd.prog.info? 34).map (·.size) = some (opC o pi ki di).toArray.size)
      have HZA := hide (by rw [zop_size, List.size_toArray, hcl] : zop.size = (opC o pi ki di).toArray.size)
      have k1 := (((Kept.refl [] wr).alloc (.cells zop 34)).setRow (g := wr.heap.size) (Or.inr (Nat.le_refl _)) (opC o pi ki di).toArray)
      have HNW := hide (setRow_heap (wr.alloc (.cells zop 34)) wr.heap.size zop (opC o pi ki di).toArray 34 (0, 0) (heap_alloc_new _ _))
      have HKW := hide ((unhide HK).trans k1 (by simp))
      have HOW := hide ((unhide HO).old k1)
      clear k1 hcl
      go_wp2_with (first
        | (refine wpList_load_mid rfl 34 _ rfl b (off + i * 135) rfl (opC o pi ki di) _ (unhide HRG) Tryd.underlying34 rfl (unhide HSZ) ?_)
        | (refine wpList_store_row rfl 34 _ _ rfl wr.heap.size (opC o pi ki di).toArray rfl rfl _ zop (heap_alloc_new _ _) (unhide HSA) (unhide HZA) (unhide HC1) ?_)
        | (refine wpList_load_row rfl 34 _ rfl wr.heap.size rfl _ (opC o pi ki di).toArray (0, 0) _ (unhide HNW) Tryd.underlying34 rfl (unhide HSA) ?_))
      refine Calls.mono (known_any o pi ki di _ (unhide HOW)) ?_
      rintro e w2 ⟨rfl, k2⟩
      have HK2 := hide ((unhide HKW).trans k2 (by simp))
      have HN2 := hide (k2.heap (unhide HNW) (by simp))
      have HO2 := hide ((unhide HOW).old k2)
      clear k2
      by_cases hk : 1 ≤ o.kd ∧ o.kd ≤ 6
      · rw [decide_eq_true hk]
        go_wp2_with (refine wpList_load_row rfl 34 _ rfl wr.heap.size rfl _ (opC o pi ki di).toArray (0, 0) _ (unhide HN2) Tryd.underlying34 rfl (unhide HSA) ?_)
        refine Calls.mono (sum_any o pi ki di _ (unhide HO2) hk ((unhide HT).k (unhide HK2))) ?_
        rintro e w3 ⟨rfl, k3⟩
        have hol := opS_len o
        generalize hoS : opS o = D at hol ⊢
        have HDS := hide hoS
        generalize hoF : opF o = E
        have HEF := hide hoF
        clear hoS hoF
        have HSZD := hide (Tryd.szD hol)
        have HN3 := hide ((kept_old w3 D).heap (k3.heap (unhide HN2) (by simp)) (by simp))
        have HO3 := hide (((unhide HO2).old k3).old (kept_old w3 D))
        have HK3 := hide (kept_new ((unhide HK2).trans k3 (by simp)) D)
        have HC3 := hide (cell_new w3 D)
        clear k3
        go_wp2_with (first
          | (rw [zb32]; refine wpList_store_row rfl 26 _ _ rfl w3.heap.size (brow D) rfl rfl _ (zb 32) (heap_alloc_new _ _) (unhide HSZD) (by rw [zb_size, brow_size, hol]) (brow_one _) ?_)
          | (refine wpList_load_row rfl 34 _ rfl wr.heap.size rfl _ (opC o pi ki di).toArray (0, 0) _ (unhide HN3) Tryd.underlying34 rfl (unhide HSA) ?_))
        refine Calls.mono (docSumOp_any o pi ki di _ (unhide HO3) hk) ?_
        rintro e w4 ⟨rfl, k4⟩
        rw [unhide HDS, unhide HEF]
        have HC4 := hide ((kept_old w4 D).heap (k4.heap (unhide HC3) (by simp)) (by simp))
        have HF4 := hide (cell_new w4 D)
        have HK4 := hide (kept_new ((unhide HK3).trans k4 (by simp)) D)
        clear k4 HC3
        have hqd : ∀ W, (Op.equalIn 10000 26 (.agg (brow D)) (.agg (brow D))).run Tryd.prog W = .ok true W := dig_same D hol
        have hee : ((E : Int) != (E : Int)) = false := by simp
        go_wp2_with (first
          | (rw [zb32]; refine wpList_store_row rfl 26 _ _ rfl w4.heap.size (brow D) rfl rfl _ (zb 32) (heap_alloc_new _ _) (unhide HSZD) (by rw [zb_size, brow_size, hol]) (brow_one _) ?_)
          | (refine wpList_load_rowG rfl 26 _ rfl w3.heap.size rfl _ (brow D) (0, 0) _ (unhide HC4) Tryd.underlying26 rfl (unhide HSZD) ?_)
          | (refine wpList_load_rowG rfl 26 _ rfl w4.heap.size rfl _ (brow D) (0, 0) _ (unhide HF4) Tryd.underlying26 rfl (unhide HSZD) ?_))
        refine ⟨⟨i + 1, by omega, by go_num, HK4⟩, ?_⟩
        simp [intOf]; omega
      · rw [decide_eq_false hk]
        clear hk
        go_wp2
        refine ⟨⟨i + 1, by omega, by go_num, HK2⟩, ?_⟩
        simp [intOf]; omega
    · have hlt' : ¬ (i : Int) < os.length := by omega
      go_wp2
      go_ret
      exact ⟨rfl, (unhide HK).below (Nat.le_refl _) (by simp)⟩
end Go.Proofs.YtgnbigijpneebaaDoor
