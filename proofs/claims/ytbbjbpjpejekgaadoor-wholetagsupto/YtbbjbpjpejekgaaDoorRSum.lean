import Derived.Test.YtbbjbpjpejekgaaDoorRComp
import Derived.Test.YtbbjbpjpejekgaaDoorRdCut
import Derived.Test.YtbbjbpjpejekgaaDoorQRow
import Derived.Test.YtbbjbpjpejekgaaDoorSDoc
import Derived.Test.YtbbjbpjpejekgaaDoorSSum
namespace Go.Proofs.YtbbjbpjpejekgaaDoor
open Go.RowKit Go.BigFrame
set_option linter.unusedVariables false
set_option linter.unusedSimpArgs false

theorem dig_at (Y : List Nat) (i : Nat) (hi : i < 32) (hl : Y.length = 8) : (dig Y).getD i 0 = Y.getD (i / 4) 0 / 2 ^ (24 - 8 * (i % 4)) % 256 := by
  have h := dig_get Y (i / 4) (i % 4) (by omega) (by omega)
  rw [show 4 * (i / 4) + i % 4 = i by omega] at h
  rw [h]
  obtain ⟨r, hr⟩ : ∃ r, i % 4 = r := ⟨_, rfl⟩
  rw [hr]
  have hr4 : r < 4 := by omega
  rcases r with _ | _ | _ | _ | r
  · simp [bytes4]
  · simp [bytes4]
  · simp [bytes4]
  · simp [bytes4]
  · omega

set_option maxRecDepth 100000 in
set_option maxHeartbeats 4000000 in
theorem refsum_any (v : Value) (p : List Nat) (w : World) (h : Rd w v p) :
    Calls Tryd.prog 80 #[v] w fun e w' => e = .returned (.agg (brow (hash p))) ∧ Kept [] w w' := by
  have H := hide h
  obtain ⟨ao, len, cap, rfl, hlen, h2, ⟨h3, h3'⟩, h4, h5, h6⟩ := h
  subst hlen
  have HB := hide h5
  have HC := hide h6
  clear h5 h6 h4
  go_enter Tryd.func80, Tryd.ntmps80
  go_wp2_with fail
  rw [zb32]
  refine (first_any _).mono ?_
  rintro e w1 ⟨rfl, k1⟩
  have HZ := hide (k1.heap (heap_alloc_new w (.cells (zb 32) 25)) (by simp))
  have HK1 := hide (((Kept.refl [] w).alloc (.cells (zb 32) 25)).trans k1 (by simp))
  have Hs1 := hide (show w.heap.size < w1.heap.size by have := k1.size; simp at this; omega)
  clear k1
  go_wp2_with (first
    | (rw [zw8]; refine wpList_store_row rfl 114 _ _ rfl w1.heap.size (row h0) rfl rfl _ (zw 8) (heap_alloc_new _ _) (by rw [row_size]; exact Tryd.size_a8) (by rw [zw_size, row_size]; rfl) (row_one _) ?_))
  obtain ⟨W1, hW⟩ : ∃ W, (w1.alloc (.cells (zw 8) 114)).setRow w1.heap.size (row h0) = W := ⟨_, rfl⟩
  obtain ⟨gh, hgh⟩ : ∃ gh, w1.heap.size = gh := ⟨_, rfl⟩
  have HK2 := hide (by rw [← hW]; exact ((unhide HK1).alloc _).setRow (Or.inr (by have := unhide Hs1; omega)) _ : Kept [] w W1)
  have HR2 := hide (by rw [← hW, ← hgh]; exact setRow_heap _ _ _ _ _ _ (heap_alloc_new _ _) : W1.heap[gh]? = some (.cells (row h0) 114 (0, 0)))
  have HZ2 := hide (by rw [← hW, setRow_other _ _ _ _ (by have := unhide Hs1; omega), heap_alloc_old _ _ (by have := unhide Hs1; omega)]; exact unhide HZ : W1.heap[w.heap.size]? = some (.cells (zb 32) 25 (0, 0)))
  have Hs2 := hide (by have := lt_of_block (unhide HR2); have := unhide Hs1; omega : w.heap.size < gh ∧ gh < W1.heap.size)
  rw [hW, hgh]
  clear hW hgh HZ HK1 Hs1
  go_loopw [5] (fun t5 wr => ∃ (k : Nat) (hs : List Nat), k ≤ p.length / 64 ∧ t5 = .int .i64 (64 * k : Nat) ∧ Hid (hs = chain h0 (p.take (64 * k))) ∧ Hid (wr.heap[gh]? = some (.cells (row hs) 114 (0, 0))) ∧ Hid (wr.heap[w.heap.size]? = some (.cells (zb 32) 25 (0, 0))) ∧ Hid (Kept [] w wr)) (fun t _ => p.length - (intOf t).toNat)
  case atStart => exact ⟨0, h0, Nat.zero_le _, rfl, hide (by rw [show 64 * 0 = 0 from rfl, List.take_zero, chain_short (by simp)]), HR2, HZ2, HK2⟩
  case round =>
    clear HR2 HZ2 HK2
    obtain ⟨k, hs, hk, rfl, HM, HRh, HRz, HK⟩ := hrel
    obtain ⟨s, hs64⟩ : ∃ s, 64 * k = s := ⟨_, rfl⟩
    rw [hs64]
    by_cases hlt : k < p.length / 64
    · have hse : s + 64 ≤ p.length := by omega
      have hltI : (s : Int) < (p.length : Int) / 64 * 64 := by omega
      obtain ⟨b, o, hao, _⟩ := unhide HC (by omega)
      subst hao
      have HRd := hide (((unhide H).old (unhide HK) (by simp)).mid (s := s) (x := 64) hse)
      have hwd := hide (by rw [unhide HM]; exact chain_wds' h0_wds _ : Wds hs)
      have HCN := hide (by rw [chain_next h0 p k (by omega), ← unhide HM, hs64] : chain h0 (p.take (64 * (k + 1))) = comp hs ((p.drop s).take 64))
      have hbl : ((p.drop s).take 64).length = 64 := by simp; omega
      have hI1 : (s : Int) + 64 ≤ cap := by omega
      have hcs : ¬ cap = s := by omega
      have hcs2 : ¬ cap - s = 0 := by omega
      go_wp2_with fail
      refine wp_quiet_tail 6 (by kernel_rfl) (by kernel_rfl) ?_
      simp only [List.take_succ_cons, List.take_zero, List.drop_succ_cons, List.drop_zero]
      refine wpQuiet_load_row rfl 114 (.tmp 3) rfl gh rfl _ (row hs) (0, 0) _ (fun w' hw' => by obtain ⟨m, e⟩ := hw'; rw [e]; exact unhide HRh) Tryd.underlying114 rfl (by rw [row_size, (unhide hwd).1]; exact Tryd.size_a8) ?_
      simp only [Act.put, List.setIfInBounds_toArray, List.set_cons_succ, List.set_cons_zero]
      repeat (go_big_quiet_step (fail))
      refine wpQuiet_nil ?_
      intro _ hw'
      obtain ⟨n1, hw''⟩ := hw'
      subst hw''
      go_wp2_with fail
      refine (refcomp_any _ hs ((p.drop s).take 64) (wr.drewN n1) (unhide hwd) (unhide HRd) hbl).mono ?_
      rintro e w2 ⟨rfl, k2⟩
      rw [← unhide HCN]
      obtain ⟨cn, hcn⟩ : ∃ cn, chain h0 (p.take (64 * (k + 1))) = cn := ⟨_, rfl⟩
      rw [hcn]
      have hcw := hide (by rw [← hcn]; exact chain_wds' h0_wds _ : Wds cn)
      have HK2 := hide (((unhide HK).drewN n1).trans k2 (by simp))
      have HR2 := hide (k2.heap (unhide HRh) (by simp))
      have HZ2 := hide (k2.heap (unhide HRz) (by simp))
      clear k2
      go_wp2_with (refine wpList_store_row rfl 114 (.tmp 3) _ rfl gh (row cn) rfl rfl _ (row hs) (unhide HR2) (by rw [row_size, (unhide hcw).1]; exact Tryd.size_a8) (by rw [row_size, row_size, (unhide hwd).1, (unhide hcw).1]) (row_one _) ?_)
      go_roundw
      case rel => exact ⟨k + 1, cn, by omega, by rw [← hs64]; congr 1 <;> omega, hide hcn.symm, hide (setRow_heap _ _ _ _ _ _ (unhide HR2)), hide (by rw [setRow_other _ _ _ _ (by have := unhide Hs2; omega)]; exact unhide HZ2), hide ((unhide HK2).setRow (Or.inr (by have := unhide Hs2; omega)) _)⟩
      case measure => first | (simp [intOf]; done) | (simp [intOf]; omega)
    · have hke : k = p.length / 64 := by omega
      have hltI : ¬ (s : Int) < (p.length : Int) / 64 * 64 := by omega
      have hwd := hide (by rw [unhide HM]; exact chain_wds' h0_wds _ : Wds hs)
      obtain ⟨i0, hi, hz0, hz1, hz2⟩ := info_parts Tryd.info5
      obtain ⟨wm, hrun, ho, hgr⟩ := run_make_own (P := Tryd.prog) wr wr.heap.size 24 5 i0 (.int .u8 0) 1 Tryd.underlying24 hi hz0 hz1 .i64 .i64 136 (by rw [hz2]; decide) (by unfold maxLen; decide) (Nat.le_refl _)
      have hrun' : (Instr.makeSlice 24 (.int .i64 0) (.int .i64 136)).run Tryd.prog wr = .ok (.slice (some ⟨wr.heap.size, 0, none⟩) 0 136) wm := hrun
      have HO := hide ho
      have HKm := hide ((Kept.refl [] wr).grown hgr (by simp))
      clear hrun ho hgr hi hz0 hz1 hz2
      have hwh : (p.length : Int) / 64 * 64 = (s : Int) := by omega
      have hsl : s ≤ p.length := by omega
      have hI1 : (s : Int) ≤ p.length := by omega
      have hI2 : (p.length : Int) ≤ cap := by omega
      have HRd0 := hide ((unhide H).old ((unhide HK).trans (unhide HKm) (by simp)) (by simp) : Rd wm (.slice ao p.length cap) p)
      obtain ⟨R, hR⟩ : ∃ R, p.drop s = R := ⟨_, rfl⟩
      have hRl : p.length - s = R.length := by rw [← hR]; simp
      have hR64 : R.length < 64 := by omega
      obtain ⟨T, hT⟩ : ∃ T, R ++ pad p.length = T := ⟨_, rfl⟩
      have hes : 64 * (p.length / 64) = s := by omega
      obtain ⟨m, hTl, hm1, hm2⟩ := tail_blocks p
      have HCW := hide (chain_whole p)
      rw [hes, hR, hT] at hTl HCW
      rw [hs64] at HM
      have HCW2 := hide (by rw [unhide HM]; exact unhide HCW : hashW p = chain hs T)
      obtain ⟨N, hN⟩ : ∃ N, R.length + (pad p.length).length = N := ⟨_, rfl⟩
      have hTN : T.length = N := by rw [← hT, List.length_append]; exact hN
      have hTb := hide (by rw [← hT, ← hR]; intro x hx; rcases List.mem_append.1 hx with h | h; exact unhide HB x (List.mem_of_mem_drop h); exact pad_byte _ x h : ∀ x ∈ T, x < 256)
      have hpl := padZ_le p.length
      have hpl2 := pad_len p.length
      by_cases hcs : cap = s
      rotate_left
      have HRt := hide ((unhide HRd0).drop (i := s) hsl)
      rotate_left
      have HRt := hide ((unhide HRd0).drop0 (i := s) hcs hsl)
      all_goals
        rw [hR] at HRt
        rw [hRl] at HRt
        go_wp2_with (at_builtin; go_must (refine wpList_appendAll rfl (.tmp 28) (.tmp 31) rfl rfl _ wr.heap.size (.slice (some ⟨wr.heap.size, 0, none⟩) 0 136) [] R _ R.length _ (by exact unhide HO) (by exact unhide HRt) (by simp; omega) (unhide HKm).size rfl rfl ?_; intro ao1 cap1 w3 HO1 HG1 HA1; simp only [List.nil_append, List.length_nil, Nat.zero_add] at HO1 HG1 HA1 ⊢))
        refine (docPadding_any p.length w3 (by omega)).mono ?_
        rintro e w4 ⟨lv, rfl, hrp, k4⟩
        obtain ⟨pa, pn, pc, rfl, hpn, _⟩ := id hrp
        have HRp := hide hrp
        have HO4 := hide (k4.owns (unhide HO1) (by simp))
        have HK4 := hide (((unhide HKm).grown (unhide HG1) (by intro j hj; right; cases hj; exact Nat.le_refl _)).trans k4 (by simp))
        have Hpn := hide hpn
        clear hrp k4 hpn
        go_wp2_with (at_builtin; go_must (refine wpList_appendAll rfl (.tmp 33) (.tmp 37) rfl rfl _ wr.heap.size (.slice ao1 R.length cap1) R (pad p.length) _ pn pc (by exact unhide HO4) (by exact unhide HRp) (by omega) (unhide HK4).size rfl rfl ?_; intro ao5 cap5 w5 HO5 HG5 HA5; rw [hT] at HO5; rw [hN] at HO5 HA5 ⊢; rw [hTN] at HO5))
        have HK5 := hide ((unhide HK4).grown (unhide HG5) (by intro j hj; right; exact ((unhide HO4).lt j hj).1))
        have HT5 := hide (rd_owns (bs := T) (by rw [hTN]; exact unhide HO5) (unhide hTb) (by omega) : Rd w5 (.slice ao5 N cap5) T)
        have HT6 := HT5
        obtain ⟨_, _, _, he5, _, hc5, ⟨hc5', _⟩, _, _, hx5⟩ := unhide HT6
        cases he5
        obtain ⟨gb, go5, rfl, _⟩ := hx5 (by omega)
        have hgb := ((unhide HO5).lt gb rfl).1
        have hghw := lt_of_block (unhide HRh)
        have Hne := hide (by omega : gb ≠ gh)
        have HR5 := hide ((unhide HK5).heap (unhide HRh) (by simp))
        have HZ5 := hide ((unhide HK5).heap (unhide HRz) (by simp))
        have HKK := hide ((unhide HK).trans (unhide HK5) (by simp))
        clear hx5 HO5 HG5 HA5 HT6 HRp HO4 HO1 HG1 HA1 hgb hghw HRt
        go_wp2_with fail
        go_loopw [7] (fun t7 wq => ∃ (j : Nat) (ys : List Nat), j ≤ m ∧ t7 = .int .i64 (64 * j : Nat) ∧ Hid (ys = chain hs (T.take (64 * j))) ∧ Hid (wq.heap[gh]? = some (.cells (row ys) 114 (0, 0))) ∧ Hid (wq.heap[w.heap.size]? = some (.cells (zb 32) 25 (0, 0))) ∧ Hid (Kept [] w wq) ∧ Hid (Kept [gh] w5 wq)) (fun t _ => N - (intOf t).toNat)
        case atStart => exact ⟨0, hs, Nat.zero_le _, rfl, hide (by rw [show 64 * 0 = 0 from rfl, List.take_zero, chain_short (by simp)]), HR5, HZ5, HKK, hide (Kept.refl _ _)⟩
        case round =>
          clear HR5 HZ5 HKK
          have hs64' := hide hs64
          clear hs64
          obtain ⟨j, ys, hj, rfl, HM2, HRh2, HRz2, HK2, HKg2⟩ := hrel
          obtain ⟨s2, hs2⟩ : ∃ s2, 64 * j = s2 := ⟨_, rfl⟩
          rw [hs2]
          have hyw := hide (by rw [unhide HM2]; exact chain_wds' (unhide hwd) _ : Wds ys)
          by_cases hlt2 : j < m
          · have hse : s2 + 64 ≤ N := by omega
            have hltI2 : (s2 : Int) < (N : Int) := by omega
            have HRd2 := hide (((unhide HT5).kept (unhide HKg2) (by have := unhide Hne; simpa [blk] using this)) : Rd wr (.slice (some ⟨gb, go5, none⟩) N cap5) T)
            rw [← hTN] at HRd2
            have HRd3 := hide ((unhide HRd2).mid (s := s2) (x := 64) (by omega))
            have HCN := hide (by rw [chain_next hs T j (by omega), ← unhide HM2, hs2] : chain hs (T.take (64 * (j + 1))) = comp ys ((T.drop s2).take 64))
            have hbl : ((T.drop s2).take 64).length = 64 := by simp; omega
            have hI1 : (s2 : Int) + 64 ≤ cap5 := by omega
            have hcs5 : ¬ cap5 = s2 := by omega
            go_wp2_with fail
            refine wp_quiet_tail 6 (by kernel_rfl) (by kernel_rfl) ?_
            simp only [List.take_succ_cons, List.take_zero, List.drop_succ_cons, List.drop_zero]
            refine wpQuiet_load_row rfl 114 (.tmp 3) rfl gh rfl _ (row ys) (0, 0) _ (fun w' hw' => by obtain ⟨m, e⟩ := hw'; rw [e]; exact unhide HRh2) Tryd.underlying114 rfl (by rw [row_size, (unhide hyw).1]; exact Tryd.size_a8) ?_
            simp only [Act.put, List.setIfInBounds_toArray, List.set_cons_succ, List.set_cons_zero]
            repeat (go_big_quiet_step (fail))
            refine wpQuiet_nil ?_
            intro _ hw'
            obtain ⟨n1, hw''⟩ := hw'
            subst hw''
            go_wp2_with fail
            refine (refcomp_any _ ys ((T.drop s2).take 64) (wr.drewN n1) (unhide hyw) (unhide HRd3) hbl).mono ?_
            rintro e w6 ⟨rfl, k6⟩
            rw [← unhide HCN]
            obtain ⟨cn, hcn⟩ : ∃ cn, chain hs (T.take (64 * (j + 1))) = cn := ⟨_, rfl⟩
            rw [hcn]
            have hcw := hide (by rw [← hcn]; exact chain_wds' (unhide hwd) _ : Wds cn)
            have HK6 := hide (((unhide HK2).drewN n1).trans k6 (by simp))
            have HKg6 := hide (((unhide HKg2).drewN n1).trans k6 (by simp))
            have HR6 := hide (k6.heap (unhide HRh2) (by simp))
            have HZ6 := hide (k6.heap (unhide HRz2) (by simp))
            clear k6
            go_wp2_with (refine wpList_store_row rfl 114 (.tmp 3) _ rfl gh (row cn) rfl rfl _ (row ys) (unhide HR6) (by rw [row_size, (unhide hcw).1]; exact Tryd.size_a8) (by rw [row_size, row_size, (unhide hyw).1, (unhide hcw).1]) (row_one _) ?_)
            go_roundw
            case rel => exact ⟨j + 1, cn, by omega, by rw [← hs2]; congr 1 <;> omega, hide hcn.symm, hide (setRow_heap _ _ _ _ _ _ (unhide HR6)), hide (by rw [setRow_other _ _ _ _ (by have := unhide Hs2; omega)]; exact unhide HZ6), hide ((unhide HK6).setRow (Or.inr (by have := unhide Hs2; omega)) _), hide ((unhide HKg6).setRow (by simp) _)⟩
            case measure => first | (simp [intOf]; done) | (simp [intOf]; omega)
          · have hje : j = m := by omega
            have hltI2 : ¬ (s2 : Int) < (N : Int) := by omega
            have HYS := hide (by rw [unhide HM2, unhide HCW2, List.take_of_length_le (by omega)] : ys = hashW p)
            go_wp2_with fail
            rw [zb32]
            obtain ⟨gd, hgd⟩ : ∃ gd, wr.heap.size = gd := ⟨_, rfl⟩
            have hghr := lt_of_block (unhide HRh2)
            have hwr := lt_of_block (unhide HRz2)
            have HD0 := hide (by rw [← hgd]; exact heap_alloc_new wr (.cells (zb 32) 25) : (wr.alloc (.cells (zb 32) 25)).heap[gd]? = some (.cells (brow (List.replicate 32 0)) 25 (0, 0)))
            have HR0 := hide (by rw [heap_alloc_old _ _ hghr]; exact unhide HRh2 : (wr.alloc (.cells (zb 32) 25)).heap[gh]? = some (.cells (row ys) 114 (0, 0)))
            have HZ0 := hide (by rw [heap_alloc_old _ _ hwr]; exact unhide HRz2 : (wr.alloc (.cells (zb 32) 25)).heap[w.heap.size]? = some (.cells (zb 32) 25 (0, 0)))
            have HK0 := hide ((unhide HK2).alloc (.cells (zb 32) 25))
            have Hs5 := hide (by have := unhide Hs2; omega : w.heap.size < gh ∧ gh < gd)
            have hyl := (unhide hyw).1
            have HYW := hide (unhide hyw).2
            rw [hgd]
            clear hghr hwr hgd
            go_loopw [9] (fun t9 wq => ∃ (i : Nat) (ds : List Nat), i ≤ 32 ∧ t9 = .int .i64 i ∧ Hid (ds.length = 32 ∧ ∀ x, x < i → ds.getD x 0 = (dig ys).getD x 0) ∧ Hid (wq.heap[gd]? = some (.cells (brow ds) 25 (0, 0))) ∧ Hid (wq.heap[gh]? = some (.cells (row ys) 114 (0, 0))) ∧ Hid (wq.heap[w.heap.size]? = some (.cells (zb 32) 25 (0, 0))) ∧ Hid (Kept [] w wq)) (fun t _ => 32 - (intOf t).toNat)
            case atStart => exact ⟨0, _, by omega, rfl, hide ⟨by simp, by intro x hx; omega⟩, HD0, HR0, HZ0, HK0⟩
            case round =>
              clear HD0 HR0 HZ0 HK0
              obtain ⟨i, ds, hi, rfl, HM3, HD3, HR3, HZ3, HK3⟩ := hrel
              by_cases hlt3 : i < 32
              · have hlt3' : (i : Int) < 32 := by omega
                obtain ⟨q, hq⟩ : ∃ q, i / 4 = q := ⟨_, rfl⟩
                obtain ⟨r, hr⟩ : ∃ r, i % 4 = r := ⟨_, rfl⟩
                obtain ⟨sh, hsh⟩ : ∃ sh, 24 - 8 * r = sh := ⟨_, rfl⟩
                have hqI : (i : Int) / 4 = (q : Int) := by omega
                have hqI' : Int.tdiv (i : Int) 4 = (q : Int) := by rw [Int.tdiv_eq_ediv_of_nonneg (by omega)]; omega
                have hrI : (i : Int) % 4 = (r : Int) := by omega
                have hrI' : Int.tmod (i : Int) 4 = (r : Int) := by rw [Int.tmod_eq_emod_of_nonneg (by omega)]; omega
                have hshI : (24 : Int) - 8 * (r : Int) = (sh : Int) := by omega
                have hq8 : (q : Int) < 8 := by omega
                have hr4 : (r : Int) < 4 := by omega
                have hsh24 : (sh : Int) ≤ 24 := by omega
                have hshn : ¬ (sh : Int) < 0 := by omega
                have HV := hide (by have := dig_at ys i hlt3 hyl; rw [hq, hr, hsh] at this; exact this : (dig ys).getD i 0 = ys.getD q 0 / 2 ^ sh % 256)
                have cq := row_cell (unhide HR3) q (by omega)
                have lq := wordD (unhide HYW) q
                have cd := brow_cell (unhide HD3) i (by rw [(unhide HM3).1]; exact hlt3)
                generalize ys.getD q 0 = x at cq HV lq
                obtain ⟨z, hz⟩ : ∃ z, x / 2 ^ sh % 256 = z := ⟨_, rfl⟩
                have hzv : (x : Int) / 2 ^ sh % 256 = (z : Int) := by rw [← hz]; simp
                rw [hz] at HV
                have HMN := hide (⟨by simpa using (unhide HM3).1, fun y hy => by
                  by_cases hij : y = i
                  · subst hij; rw [getD_set_same _ _ _ (by rw [(unhide HM3).1]; exact hlt3), unhide HV]
                  · rw [getD_set_other _ _ _ _ hij]; exact (unhide HM3).2 y (by omega)⟩ : (ds.set i z).length = 32 ∧ ∀ y, y < i + 1 → (ds.set i z).getD y 0 = (dig ys).getD y 0)
                have fr : wr.frozen? ⟨gd, i, none⟩ = false := frozen_of_row _ _ _ _ _ (unhide HD3)
                have HND := hide (brow_setCell (unhide HD3) i z)
                have HNR := hide ((heap_setCell_other wr ⟨gd, i, none⟩ gh (Go.Proofs.YtbbjbpjpejekgaaDoor.u8 z) (by have := unhide Hs5; simp only [ne_eq]; omega)).trans (unhide HR3))
                have HNZ := hide ((heap_setCell_other wr ⟨gd, i, none⟩ w.heap.size (Go.Proofs.YtbbjbpjpejekgaaDoor.u8 z) (by have := unhide Hs5; simp only [ne_eq]; omega)).trans (unhide HZ3))
                have HNK := hide (fun n => ((unhide HK3).drewN n).setCell (p := ⟨gd, i, none⟩) (Or.inr (by have := unhide Hs5; simp only; omega)) (Go.Proofs.YtbbjbpjpejekgaaDoor.u8 z))
                clear hz hq hr hsh
                go_wp2_with fail
                go_roundw
                case rel => exact ⟨i + 1, _, by omega, by go_num, HMN, HND, HNR, HNZ, unhide HNK 0⟩
                case measure => simp [intOf]; omega
              · have hlt3' : ¬ (i : Int) < 32 := by omega
                have hi32 : i = 32 := by omega
                subst hi32
                have hfin : ds = hash p := by
                  unfold hash
                  rw [← unhide HYS]
                  refine list_ext_getD (by rw [(unhide HM3).1, dig_len, hyl]) (fun x hx => (unhide HM3).2 x (by rw [(unhide HM3).1] at hx; exact hx))
                have hhl : (hash p).length = 32 := by rw [← hfin]; exact (unhide HM3).1
                rw [hfin] at HD3
                clear hfin
                go_wp2_with (first
                  | (refine wpList_load_row rfl 25 _ rfl gd rfl _ (brow (hash p)) (0, 0) _ (unhide HD3) Tryd.underlying25 rfl (by rw [brow_size, hhl]; exact Tryd.size_a32b) ?_)
                  | (refine wpList_store_row rfl 25 (.tmp 2) _ rfl w.heap.size (brow (hash p)) rfl rfl _ (zb 32) (unhide HZ3) (by rw [brow_size, hhl]; exact Tryd.size_a32b) (by rw [zb_size, brow_size, hhl]) (brow_one _) ?_))
                refine bodyPost_ret (v := .agg (brow (hash p))) ?_ rfl ⟨rfl, (unhide HK3).setRow (by simp) _⟩
                exact results_cell_row rfl _ _ w.heap.size _ (brow (hash p)) (0, 0) _ rfl (setRow_heap _ _ _ _ _ _ (unhide HZ3)) Tryd.underlying25 rfl (by rw [brow_size, hhl]; exact Tryd.size_a32b)
end Go.Proofs.YtbbjbpjpejekgaaDoor
