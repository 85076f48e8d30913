import Derived.Test.YtgnbigijpneebaaDoorDBr
namespace Go.Proofs.YtgnbigijpneebaaDoor
open Go.RowKit Go.BigFrame
set_option linter.unusedVariables false
set_option linter.unusedSimpArgs false

set_option maxRecDepth 100000 in
set_option maxHeartbeats 1000000 in
theorem refBranchInput_any (k : Nat) (x : Nat) (v : Value) (ds : List (List Nat)) (w : World) (hk' : k ≤ 32) (hx : x < 65536) (hv : RdD w v ds) (hn : ds.length ≤ 16) :
    Calls Tryd.prog 43 #[.int .i64 k, .int .u16 x, v] w fun e w' => ∃ v', e = .returned v' ∧ Rd w' v' (branchB k x ds) ∧ Kept [] w w' := by
  obtain ⟨ao, len, cap, rfl, h1, h2, h3, h4, h5⟩ := hv
  have H4 := hide h4
  have H5 := hide h5
  clear h4 h5
  subst h1
  have hk : (k : Int) ≤ 32 := by omega
  have HKL := hide (fun i => Nat.le_trans (kidsB_len k (ds.take i)) (Nat.mul_le_mul hk' (by rw [List.length_take]; exact Nat.min_le_right _ _)) : ∀ i, (kidsB k (ds.take i)).length ≤ 32 * ds.length)
  go_enter Tryd.func43, Tryd.ntmps43
  go_wp2_with fail
  refine Calls.mono (refWide_any x 2 _ (by omega) (by decide)) ?_
  rintro e w1 ⟨rfl, k1, g1⟩
  have HR1 := hide (rd_fresh g1 (wide_byte x 2) (by simp [wide_len]))
  rw [wide_len, show (w.alloc (.cells #[.int .u8 4] 5)).heap.size = w.heap.size + 1 from Array.size_push _] at HR1
  have k01 := ((Kept.refl [] w).alloc _).trans k1 (by simp)
  have HK1 := hide k01
  have HR0 := hide ((rd_lit1 [4] (heap_alloc_new w (.cells #[.int .u8 4] 5)) rfl (by decide) 1 rfl (by decide)).old k1 (by simp))
  clear g1 k1 k01
  go_wp2_with fail
  refine Calls.mono (join_own _ _ [4] (wide x 2) _ (unhide HR0) (unhide HR1) (by simp [wide_len])) ?_
  rintro e w2 ⟨v2, rfl, o2, k2⟩
  have HO2 := hide o2
  have HS2 := hide ((unhide HK1).size)
  have HK2 := hide ((unhide HK1).trans k2 (by simp))
  obtain ⟨ao2, cap2, hu2⟩ := owns_shape o2
  subst hu2
  have hzz := k2.size
  clear o2 k2
  obtain ⟨B0, hB0⟩ : ∃ B0, w1.heap.size = B0 := ⟨_, rfl⟩
  rw [hB0] at HO2 HS2 hzz
  clear hB0
  go_wp2_with fail
  go_loopw [7, 17] (fun t7 t17 wr => ∃ (i : Nat) (cur : List Nat) (ao : Option Addr) (cap : Nat), i ≤ ds.length ∧ t17 = .int .i64 i ∧ t7 = .slice ao cur.length cap ∧ Hid (cur = 4 :: wide x 2 ++ kidsB k (ds.take i)) ∧ Hid (wr.ownsRow B0 5 1 (.slice ao cur.length cap) cur.length (cur.map u8)) ∧ Hid (∀ z ∈ cur, z < 256) ∧ Hid (Kept [] w wr) ∧ B0 ≤ wr.heap.size) (fun _ t _ => ds.length - (intOf t).toNat)
  case atStart => exact ⟨0, [4] ++ wide x 2, ao2, cap2, Nat.zero_le _, rfl, by simp, hide (by simp [kidsB]), hide (by simpa using unhide HO2), hide (by intro z hz; rcases List.mem_append.1 hz with h | h; simp at h; omega; exact wide_byte _ _ z h), HK2, hzz⟩
  case round =>
    obtain ⟨i, cur, aoc, capc, hi, rfl, rfl, HCUR, HO, HCB, HK, hb0⟩ := hrel
    have HCL := hide (by have h9 := unhide HKL i; rw [unhide HCUR]; simp only [List.length_append, List.length_cons, wide_len]; omega : cur.length ≤ 1000)
    by_cases hlt : i < ds.length
    · have hlt' : (i : Int) < ds.length := by omega
      obtain ⟨b, o', rfl, hcell⟩ := unhide H5 (by omega)
      have HD := hide (unhide H4 (ds.getD i []) (by rw [List.getD_eq_getElem?_getD, List.getElem?_eq_getElem hlt]; exact List.getElem_mem hlt))
      have HRG := hide (fun j v hv => (unhide HK).cell (hcell i hlt j v hv) (by simp) : wr.rangeAt b (o' + i * 32) ((ds.getD i []).map u8))
      have HSN := hide (kidsB_snoc k ds i hlt)
      clear hcell
      obtain ⟨d, hd⟩ : ∃ d, ds.getD i [] = d := ⟨_, rfl⟩
      rw [hd] at HD HRG HSN
      clear hd
      have hdl := (unhide HD).1
      have HSZ := hide (by rw [brow_size, hdl]; exact Tryd.size_dig : (Tryd.prog.info? 26).map (·.size) = some (brow d).size)
      have k1 := (((Kept.refl [] wr).alloc (.cells (zb 32) 26)).setRow (g := wr.heap.size) (Or.inr (Nat.le_refl _)) (brow d))
      have HNW := hide (rd_dig (k := k) (range_row (setRow_heap (wr.alloc (.cells (zb 32) 26)) wr.heap.size (zb 32) (brow d) 26 (0, 0) (heap_alloc_new _ _))) hdl (unhide HD).2 hk')
      have HOW := hide (k1.owns (unhide HO) (by simp))
      have HKW := hide ((unhide HK).trans k1 (by simp))
      have hbW := Nat.le_trans hb0 k1.size
      clear k1
      have htl : (d.take k).length = k := by rw [List.length_take, hdl]; omega
      go_wp2_with (first
        | (refine wpList_load_mid rfl 26 (.tmp 19) rfl b (o' + i * 32) rfl (d.map u8) _ (unhide HRG) Tryd.underlying26 rfl (by rw [List.length_map, hdl]; exact Tryd.size_dig) ?_)
        | (rw [zb32]; refine wpList_store_row rfl 26 (.tmp 9) _ rfl wr.heap.size (brow d) rfl rfl _ (zb 32) (heap_alloc_new _ _) (unhide HSZ) (by rw [zb_size, brow_size, hdl]) (brow_one _) ?_)
        | (at_builtin; go_must (refine wpList_appendAll rfl _ _ rfl rfl _ B0 (.slice aoc cur.length capc) cur (d.take k) _ _ _ (by exact unhide HOW) (by exact unhide HNW) (by have := unhide HCL; rw [htl]; omega) hbW rfl rfl ?_; intro ao6 cap6 w6 HO6 HG6 HA6; have HK6 := hide ((unhide HKW).grown (unhide HG6) (by intro g hg; right; have := ((unhide HO).lt g hg).1; have := unhide HS2; omega)); have hb7 := (unhide HG6).size)))
      refine ⟨⟨i + 1, cur ++ d.take k, ao6, cap6, by omega, by go_num, by simp only [List.length_append, htl], hide (by rw [unhide HSN, unhide HCUR]; simp only [List.append_assoc]), hide (by have h5 := unhide HO6; rw [← List.length_append] at h5; exact h5), hide (by intro z hz; rcases List.mem_append.1 hz with h | h; exact unhide HCB z h; exact (unhide HD).2 z (List.mem_of_mem_take h)), HK6, Nat.le_trans hbW hb7⟩, ?_⟩
      simp [intOf]; omega
    · have hlt' : ¬ (i : Int) < ds.length := by omega
      have hie : i = ds.length := by omega
      subst hie
      rw [List.take_length] at HCUR
      go_wp2_with fail
      go_ret
      refine ⟨_, rfl, ?_, unhide HK⟩
      have h5 := rd_owns (unhide HO) (unhide HCB) (by have := unhide HCL; omega)
      rw [show branchB k x ds = cur from by rw [unhide HCUR]; rfl]
      exact h5
end Go.Proofs.YtgnbigijpneebaaDoor
