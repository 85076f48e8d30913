import Derived.Test.YtclgblilgpfllabNTop
import Derived.Test.YtclgblilgpfllabLNDigits
import Derived.Test.YtclgblilgpfllabNRank
namespace Go.Proofs.Ytclgblilgpfllab
open Go.RowKit Go.BigFrame
set_option linter.unusedVariables false
set_option linter.unusedSimpArgs false

set_option maxRecDepth 100000 in
set_option maxHeartbeats 4000000 in
theorem wholeDigits_walk (u : Nat) (a b : List Nat) (lv : Value) (ls : List Nat) (w : World) (hu : u < 256) (ha : Dg a) (hb : Dg b) (hl : Rd w lv ls) :
    Calls Try.prog 4 #[.int .u8 u, .agg (brow a), .agg (brow b), lv] w fun e w' => e = .returned (.bool true) ∧ Below w.heap.size w w' := by
  have HL := hide hl
  obtain ⟨al, nl, cl, rfl, hn, hc1, ⟨hc2, hc3⟩, _⟩ := id hl
  subst hn
  clear hl
  have hal := ha.1
  have hbl := hb.1
  obtain ⟨k, hk⟩ : ∃ k, 1 + u % 32 = k := ⟨_, rfl⟩
  have hk1 : 1 ≤ k := by omega
  have hk32 : k ≤ 32 := by omega
  have hX := cut_dg hk32 ha
  have hY := cut_dg hk32 hb
  have FX := hide (cut_form hk1 hk32 ha)
  have FY := hide (cut_form hk1 hk32 hb)
  have HGA := hide (((Kept.refl [] (w.alloc (.cells (brow a) 29))).alloc (.cells (brow b) 29)).heap (heap_alloc_new w (.cells (brow a) 29)) (by simp))
  have HGB := hide (alloc_at w (.cells (brow a) 29) (.cells (brow b) 29))
  have HK0 := hide (((Kept.refl [] w).alloc (.cells (brow a) 29)).alloc (.cells (brow b) 29))
  have HZA := hide (by rw [brow_size, hal]; exact Try.size_dig : (Try.prog.info? 29).map (·.size) = some (brow a).size)
  have HZB := hide (by rw [brow_size, hbl]; exact Try.size_dig : (Try.prog.info? 29).map (·.size) = some (brow b).size)
  have hz : -9223372036854775808 ≤ (k : Int) ∧ (k : Int) ≤ 9223372036854775807 := by omega
  go_enter Try.func4, Try.ntmps4
  go_wp2_with fail
  refine Calls.mono (twidth_any u _ hu) ?_
  rintro e w1 ⟨rfl, rfl⟩
  rw [hk]
  clear hk
  go_wp2_with (refine wpList_load_row rfl 29 _ rfl w.heap.size rfl _ (brow a) (0, 0) _ (unhide HGA) Try.underlying29 rfl (unhide HZA) ?_)
  refine Calls.mono (tcut_any k a _ hk1 hk32 hal ha.2) ?_
  rintro e w2 ⟨rfl, k2⟩
  have HK2 := hide ((unhide HK0).trans k2 (by simp))
  have HB2 := hide (k2.heap (unhide HGB) (by simp))
  clear k2 HGA HGB HK0
  generalize cutL k a = x at *
  have HZX := hide (by rw [brow_size, hX.1]; exact Try.size_dig : (Try.prog.info? 29).map (·.size) = some (brow x).size)
  have HX2 := hide (setRow_heap (w2.alloc (.cells (zb 32) 29)) w2.heap.size (zb 32) (brow x) 29 (0, 0) (heap_alloc_new _ _))
  have KX := ((Kept.refl [] w2).alloc (.cells (zb 32) 29)).setRow (g := w2.heap.size) (Or.inr (Nat.le_refl _)) (brow x)
  have HBX := hide (KX.heap (unhide HB2) (by simp))
  have HKX := hide ((unhide HK2).trans KX (by simp))
  clear KX
  go_wp2_with (first
    | (rw [zb32]; refine wpList_store_row rfl 29 _ _ rfl w2.heap.size (brow x) rfl rfl _ (zb 32) (heap_alloc_new _ _) (unhide HZX) (by rw [zb_size, brow_size, hX.1]) (brow_one _) ?_)
    | (refine wpList_load_row rfl 29 _ rfl (w.heap.size + 1) rfl _ (brow b) (0, 0) _ (unhide HBX) Try.underlying29 rfl (unhide HZB) ?_))
  refine Calls.mono (tcut_any k b _ hk1 hk32 hbl hb.2) ?_
  rintro e w3 ⟨rfl, k3⟩
  have HK3 := hide ((unhide HKX).trans k3 (by simp))
  have HX3 := hide (k3.heap (unhide HX2) (by simp))
  clear k3 HX2 HBX HKX HB2 HK2
  generalize cutL k b = y at *
  obtain ⟨g, hg⟩ : ∃ g, w2.heap.size = g := ⟨_, rfl⟩
  rw [hg] at HX3 ⊢
  clear hg
  have HZY := hide (by rw [brow_size, hY.1]; exact Try.size_dig : (Try.prog.info? 29).map (·.size) = some (brow y).size)
  have HY4 := hide (setRow_heap (w3.alloc (.cells (zb 32) 29)) w3.heap.size (zb 32) (brow y) 29 (0, 0) (heap_alloc_new _ _))
  have KY := ((Kept.refl [] w3).alloc (.cells (zb 32) 29)).setRow (g := w3.heap.size) (Or.inr (Nat.le_refl _)) (brow y)
  have HX4 := hide (KY.heap (unhide HX3) (by simp))
  have HK4 := hide ((unhide HK3).trans KY (by simp))
  clear KY
  go_wp2_with (first
    | (rw [zb32]; refine wpList_store_row rfl 29 _ _ rfl w3.heap.size (brow y) rfl rfl _ (zb 32) (heap_alloc_new _ _) (unhide HZY) (by rw [zb_size, brow_size, hY.1]) (brow_one _) ?_)
    | (refine wpList_load_row rfl 29 _ rfl g rfl _ (brow x) (0, 0) _ (unhide HX4) Try.underlying29 rfl (unhide HZX) ?_)
    | (refine wpList_load_row rfl 29 _ rfl w3.heap.size rfl _ (brow y) (0, 0) _ (unhide HY4) Try.underlying29 rfl (unhide HZY) ?_))
  obtain ⟨gY, hh⟩ : ∃ gY, w3.heap.size = gY := ⟨_, rfl⟩
  rw [hh] at HY4 HX4 HK4 ⊢
  obtain ⟨W, hW⟩ : ∃ W, (w3.alloc (.cells (zb 32) 29)).setRow gY (brow y) = W := ⟨_, rfl⟩
  rw [hW] at HY4 HX4 HK4 ⊢
  clear hW hh HX3 HK3
  have hff : formedE (k : Int) [x, y] = 0 := fit_formed (by unfold fitB; rw [unhide FX, unhide FY]; rfl)
  have HCO := hide (com_ord hX hY hk1 hk32 hff)
  have HSP := hide (comL_spec x y (2 * k) 0)
  have hO1 : ordC (k : Int) x y = ordL x y := by unfold ordC; rw [if_pos hff]
  have hC1 : comC (k : Int) x y = comL x y (2 * k) 0 := by unfold comC; rw [if_pos hff, Int.toNat_natCast]
  have hor := ordL_range x y
  have hk2 : IntKind.i64.wrap (2 * (k : Int)) = 2 * (k : Int) := by simp [IntKind.wrap, IntKind.signed, IntKind.bits]; omega
  refine Calls.mono (common_any k x y _ hz hX hY) ?_
  rintro e w5 ⟨rfl, k5⟩
  rw [hC1, hff]
  have HK5 := hide ((unhide HK4).trans k5 (by simp))
  have HX5 := hide (k5.heap (unhide HX4) (by simp))
  have HY5 := hide (k5.heap (unhide HY4) (by simp))
  clear k5 HX4 HY4 HK4
  go_wp2_with (first
    | (refine wpList_load_row rfl 29 _ rfl g rfl _ (brow x) (0, 0) _ (unhide HX5) Try.underlying29 rfl (unhide HZX) ?_)
    | (refine wpList_load_row rfl 29 _ rfl gY rfl _ (brow y) (0, 0) _ (unhide HY5) Try.underlying29 rfl (unhide HZY) ?_))
  refine Calls.mono (order_any k x y _ hz hX hY) ?_
  rintro e w6 ⟨rfl, k6⟩
  rw [hO1, hff]
  have HK6 := hide ((unhide HK5).trans k6 (by simp))
  have HX6 := hide (k6.heap (unhide HX5) (by simp))
  have HY6 := hide (k6.heap (unhide HY5) (by simp))
  clear k6 HX5 HY5 HK5 hO1 hC1 hff
  have hcle := (unhide HSP).2.1
  have hqd : ∀ W, (Op.equalIn 10000 29 (.agg (brow x)) (.agg (brow y))).run Try.prog W = .ok (decide (x = y)) W := fun W => dig_eq W x y hX.1 hY.1
  have f1 : (ordL x y == 0) = decide (x = y) := by
    rcases unhide HCO with ⟨_, e, h⟩ | ⟨_, e, _, h⟩
    · rw [h, decide_eq_true e]; rfl
    · rw [h, decide_eq_false e]; split <;> rfl
  have f2 : (((comL x y (2 * k) 0 : Nat) : Int) == 2 * (k : Int)) = decide (x = y) := by
    rcases unhide HCO with ⟨h, e, _⟩ | ⟨h, e, _, _⟩
    · rw [h, decide_eq_true e, beq_iff_eq]; omega
    · rw [decide_eq_false e, beq_eq_false_iff_ne]; omega
  have HLT := hide (fun (hc : comL x y (2 * k) 0 < 2 * k) => by
    rcases unhide HCO with ⟨h, _, _⟩ | ⟨_, _, h1, h2⟩
    · omega
    · exact ⟨h1, h2⟩ : comL x y (2 * k) 0 < 2 * k → dgt x (comL x y (2 * k) 0) ≠ dgt y (comL x y (2 * k) 0) ∧ ordL x y = if dgt x (comL x y (2 * k) 0) < dgt y (comL x y (2 * k) 0) then -1 else 1)
  clear HCO
  generalize comL x y (2 * k) 0 = c at *
  generalize ordL x y = o at *
  obtain ⟨E, hE⟩ : ∃ E, decide (x = y) = E := ⟨_, rfl⟩
  rw [hE] at f1 f2 hqd
  clear hE
  have f3 : (E != E) = false := by simp
  have f4 : decide ((c : Int) < 0) = false := decide_eq_false (by omega)
  have f5 : decide (2 * (k : Int) < c) = false := decide_eq_false (by omega)
  have hcI : (c : Int) ≤ 2 * (k : Int) := by omega
  go_wp2_with (first
    | (refine wpList_load_rowG rfl 29 _ rfl g rfl _ (brow x) (0, 0) _ (unhide HX6) Try.underlying29 rfl (unhide HZX) ?_)
    | (refine wpList_load_rowG rfl 29 _ rfl gY rfl _ (brow y) (0, 0) _ (unhide HY6) Try.underlying29 rfl (unhide HZY) ?_))
  go_loopw [16] (fun t16 wr => ∃ (i : Nat), i ≤ c ∧ t16 = .int .i64 i ∧ Hid (Kept [] w6 wr)) (fun t _ => c - (intOf t).toNat)
  case atStart => exact ⟨0, by omega, rfl, hide (Kept.refl _ _)⟩
  case round =>
    obtain ⟨i, hi, rfl, HKr⟩ := hrel
    have HXr := hide ((unhide HKr).heap (unhide HX6) (by simp))
    have HYr := hide ((unhide HKr).heap (unhide HY6) (by simp))
    by_cases hlt : i < c
    · have hlt' : (i : Int) < c := by omega
      obtain ⟨eA, cA⟩ := at_ok (unhide FX) i (by omega)
      obtain ⟨eB, cB⟩ := at_ok (unhide FY) i (by omega)
      have hdx := dgt_lt hY.2 i
      have heq := (unhide HSP).2.2.1 i (by omega) hlt
      go_wp2_with (refine wpList_load_row rfl 29 _ rfl g rfl _ (brow x) (0, 0) _ (unhide HXr) Try.underlying29 rfl (unhide HZX) ?_)
      refine Calls.mono (at_any k x i _ hz (by omega) hX) ?_
      rintro e v1 ⟨rfl, q1⟩
      rw [eA, cA, heq]
      have HK1 := hide ((unhide HKr).trans q1 (by simp))
      have HYY := hide (q1.heap (unhide HYr) (by simp))
      clear q1
      go_wp2_with (refine wpList_load_row rfl 29 _ rfl gY rfl _ (brow y) (0, 0) _ (unhide HYY) Try.underlying29 rfl (unhide HZY) ?_)
      refine Calls.mono (at_any k y i _ hz (by omega) hY) ?_
      rintro e v2 ⟨rfl, q2⟩
      rw [eB, cB]
      have HK2 := hide ((unhide HK1).trans q2 (by simp))
      clear q2 eA cA eB cB heq
      generalize dgt y i = d at *
      have d1 : decide ((d : Int) < 0) = false := decide_eq_false (by omega)
      have d2 : decide ((15 : Int) < d) = false := decide_eq_false (by omega)
      have d3 : ((d : Int) != d) = false := by simp
      go_wp2
      go_roundw
      case rel => exact ⟨i + 1, by omega, by go_num, HK2⟩
      case measure => simp [intOf]; omega
    · have hlt' : ¬ (i : Int) < c := by omega
      by_cases hck : c < 2 * k
      · have hck' : (c : Int) < 2 * k := by omega
        obtain ⟨hne9, ho9⟩ := unhide HLT hck
        have HO9 := hide ho9
        clear hor ho9
        obtain ⟨eA, cA⟩ := at_ok (unhide FX) c hck
        obtain ⟨eB, cB⟩ := at_ok (unhide FY) c hck
        go_wp2_with (refine wpList_load_row rfl 29 _ rfl g rfl _ (brow x) (0, 0) _ (unhide HXr) Try.underlying29 rfl (unhide HZX) ?_)
        refine Calls.mono (at_any k x c _ hz (by omega) hX) ?_
        rintro e v1 ⟨rfl, q1⟩
        rw [eA, cA]
        have HK1 := hide ((unhide HKr).trans q1 (by simp))
        have HYY := hide (q1.heap (unhide HYr) (by simp))
        clear q1
        go_wp2_with (refine wpList_load_row rfl 29 _ rfl gY rfl _ (brow y) (0, 0) _ (unhide HYY) Try.underlying29 rfl (unhide HZY) ?_)
        refine Calls.mono (at_any k y c _ hz (by omega) hY) ?_
        rintro e v2 ⟨rfl, q2⟩
        rw [eB, cB]
        have HK2 := hide ((unhide HK1).trans q2 (by simp))
        clear q2 eA cA eB cB
        generalize dgt x c = dx at *
        generalize dgt y c = dy at *
        have d1 : ((dx : Int) == dy) = false := by rw [beq_eq_false_iff_ne]; omega
        have d1' : ¬ (dx : Int) = dy := by omega
        by_cases hxy : dx < dy
        · have hxy' : (dx : Int) < dy := by omega
          have d2 : decide ((dx : Int) < dy) = true := decide_eq_true hxy'
          have ho9 := unhide HO9
          rw [if_pos hxy] at ho9
          subst ho9
          go_wp2_with fail
          have HKs := hide ((unhide HK6).trans (unhide HK2) (by simp))
          refine Calls.mono (with_any 0 3 _ (by decide) (by decide)) ?_
          rintro e z1 ⟨rfl, q1⟩
          rw [show withB 0 3 = 8 by decide]
          have HZ1 := hide ((unhide HKs).trans q1 (by simp))
          clear q1
          go_wp2_with fail
          refine Calls.mono (count_any 8 _ (by decide)) ?_
          rintro e z2 ⟨rfl, q2⟩
          rw [show cnt 8 16 = 1 by decide]
          have HZ2 := hide ((unhide HZ1).trans q2 (by simp))
          clear q2
          go_wp2_with fail
          refine Calls.mono (has_any 8 4 _ (by decide) (by decide)) ?_
          rintro e z3 ⟨rfl, q3⟩
          rw [show hasB 8 4 = false by decide]
          have HZ3 := hide ((unhide HZ2).trans q3 (by simp))
          clear q3
          go_wp2_with fail
          go_loopw [25, 26] (fun t25 t26 wq => ∃ (m j : Nat), m < 65536 ∧ j ≤ ls.length ∧ t25 = .int .u16 m ∧ t26 = .int .i64 j ∧ Hid (Kept [] w wq)) (fun _ t _ => ls.length - (intOf t).toNat)
          case atStart => exact ⟨8, 0, by decide, by omega, rfl, rfl, HZ3⟩
          case round =>
            obtain ⟨m, j, hm, hj, rfl, rfl, HKq⟩ := hrel
            by_cases hjl : j < ls.length
            · have hjl' : (j : Int) < ls.length := by omega
              have HLq := hide ((unhide HL).old (unhide HKq) (by simp))
              obtain ⟨a9, n9, c9, e9, _, _, _, _, hby, hcl⟩ := id (unhide HLq)
              cases e9
              obtain ⟨gl, ol, rfl, hcell⟩ := hcl (by omega)
              have cj := hcell j (by omega)
              have hb9 : ls.getD j 0 < 256 := by rw [List.getD_eq_getElem?_getD, List.getElem?_eq_getElem hjl]; exact hby _ (List.getElem_mem hjl)
              obtain ⟨v, hv⟩ : ∃ v, ls.getD j 0 = v := ⟨_, rfl⟩
              rw [hv] at cj hb9
              obtain ⟨r, hr⟩ : ∃ r, v % 16 = r := ⟨_, rfl⟩
              have hr2 : (v : Int) % 16 = r := by omega
              have hr3 : (v : Int).tmod 16 = r := by rw [Int.tmod_eq_emod_of_nonneg (by omega)]; omega
              have hr15 : r ≤ 15 := by omega
              have hwv : IntKind.i64.wrap (v : Int) = v := by simp [IntKind.wrap, IntKind.signed, IntKind.bits]; omega
              clear hcell hcl hby hv hr
              have hi9 : -9223372036854775808 ≤ (r : Int) ∧ (r : Int) ≤ 9223372036854775807 := by omega
              have hMl := withB_lt m (r : Int) hm
              have q1 := hide (has_with m r hr15)
              have hcM := cnt_with m r hr15 16
              rw [if_pos (by omega)] at hcM
              have q3 := hide (out_with m r hr15)
              have hVl := outB_lt m (r : Int) hm
              have q4 := hide (by
                rw [hasB_in m r hr15]
                cases hx : m.testBit r with
                | true => rw [if_pos rfl, ← (eq_with m r hr15).2 hx]
                | false =>
                  rw [if_neg (by simp)]
                  have h9 := (eq_out m r hr15).2 hx
                  rw [← h9] at hcM
                  exact hcM : cnt (withB m (r : Int)) 16 = if hasB m (r : Int) then cnt m 16 else cnt m 16 + 1)
              have q5 := cnt_le m 16
              go_wp2_with fail
              refine Calls.mono (count_any m _ hm) ?_
              rintro e y1 ⟨rfl, p1⟩
              have K1 := hide ((unhide HKq).trans p1 (by simp))
              clear p1
              go_wp2_with fail
              refine Calls.mono (has_any m r _ hm hi9) ?_
              rintro e y2 ⟨rfl, p2⟩
              have K2 := hide ((unhide K1).trans p2 (by simp))
              clear p2
              go_wp2_with fail
              refine Calls.mono (with_any m r _ hm hi9) ?_
              rintro e y3 ⟨rfl, p3⟩
              have K3 := hide ((unhide K2).trans p3 (by simp))
              clear p3
              have q6 := hide (rfl : outB m (r : Int) = outB m (r : Int))
              generalize withB m (r : Int) = M at *
              generalize outB m (r : Int) = V at *
              go_wp2_with fail
              refine Calls.mono (has_any M r _ hMl hi9) ?_
              rintro e y4 ⟨rfl, p4⟩
              have K4 := hide ((unhide K3).trans p4 (by simp))
              clear p4
              rw [unhide q1]
              go_wp2_with fail
              refine Calls.mono (count_any M _ hMl) ?_
              rintro e y5 ⟨rfl, p5⟩
              have K5 := hide ((unhide K4).trans p5 (by simp))
              clear p5
              have hcM2 := unhide q4
              obtain ⟨cM, hcMe⟩ : ∃ cM, cnt M 16 = cM := ⟨_, rfl⟩
              obtain ⟨cm, hcme⟩ : ∃ cm, cnt m 16 = cm := ⟨_, rfl⟩
              obtain ⟨cV, hcVe⟩ : ∃ cV, cnt V 16 = cV := ⟨_, rfl⟩
              rw [hcMe, hcVe] at hcM
              rw [hcMe, hcme] at hcM2
              rw [hcme] at q5 ⊢
              rw [hcMe]
              cases hh : hasB m (r : Int) with
              | true =>
                rw [hh, if_pos rfl] at hcM2
                subst hcM2
                clear hh q4
                go_wp2_with fail
                refine Calls.mono (without_any M r _ hMl hi9) ?_
                rintro e y6 ⟨rfl, p6⟩
                have K6 := hide ((unhide K5).trans p6 (by simp))
                clear p6
                rw [unhide q3]
                go_wp2_with fail
                refine Calls.mono (count_any V _ hVl) ?_
                rintro e y7 ⟨rfl, p7⟩
                have K7 := hide ((unhide K6).trans p7 (by simp))
                clear p7
                rw [hcVe]
                go_wp2_with fail
                refine Calls.mono (count_any M _ hMl) ?_
                rintro e y8 ⟨rfl, p8⟩
                have K8 := hide ((unhide K7).trans p8 (by simp))
                clear p8
                rw [hcMe]
                have hcV2 : (cM : Int) = cV + 1 := by omega
                rw [hcV2]
                go_wp2
                go_roundw
                case rel => exact ⟨M, j + 1, hMl, by omega, rfl, by go_num, K8⟩
                case measure => simp [intOf]; omega
              | false =>
                rw [hh, if_neg (by simp)] at hcM2
                have hcM3 : (cM : Int) = cm + 1 := by omega
                clear hh q4
                rw [hcM3]
                go_wp2_with fail
                refine Calls.mono (without_any M r _ hMl hi9) ?_
                rintro e y6 ⟨rfl, p6⟩
                have K6 := hide ((unhide K5).trans p6 (by simp))
                clear p6
                rw [unhide q3]
                go_wp2_with fail
                refine Calls.mono (count_any V _ hVl) ?_
                rintro e y7 ⟨rfl, p7⟩
                have K7 := hide ((unhide K6).trans p7 (by simp))
                clear p7
                rw [hcVe]
                go_wp2_with fail
                refine Calls.mono (count_any M _ hMl) ?_
                rintro e y8 ⟨rfl, p8⟩
                have K8 := hide ((unhide K7).trans p8 (by simp))
                clear p8
                rw [hcMe]
                have hcV2 : (cM : Int) = cV + 1 := by omega
                rw [hcV2]
                go_wp2
                go_roundw
                case rel => exact ⟨M, j + 1, hMl, by omega, rfl, by go_num, K8⟩
                case measure => simp [intOf]; omega
            · have hjl' : ¬ (j : Int) < ls.length := by omega
              go_wp2_with fail
              go_loopw [30, 31] (fun t30 t31 wz => ∃ (n i : Nat), i ≤ 16 ∧ n ≤ 16 ∧ t30 = .int .i64 n ∧ t31 = .int .i64 i ∧ Hid (n = rankB m i) ∧ Hid (Kept [] w wz)) (fun _ t _ => 16 - (intOf t).toNat)
              case atStart => exact ⟨0, 0, by omega, by omega, rfl, rfl, hide (by simp [rankB, cnt, setB]), HKq⟩
              case round =>
                obtain ⟨n, i, hi1, hi2, rfl, rfl, HN, HKz⟩ := hrel
                by_cases hil : i < 16
                · have hil' : (i : Int) < 16 := by omega
                  have HS := hide (rank_step m i)
                  have HLe := hide (rankB_le m ((i : Int) + 1))
                  go_wp2_with fail
                  refine Calls.mono (rank_any m i _ hm (by omega)) ?_
                  rintro e y1 ⟨rfl, p1⟩
                  have K1 := hide ((unhide HKz).trans p1 (by simp))
                  clear p1
                  rw [← unhide HN]
                  go_wp2_with fail
                  refine Calls.mono (has_any m i _ hm (by omega)) ?_
                  rintro e y2 ⟨rfl, p2⟩
                  have K2 := hide ((unhide K1).trans p2 (by simp))
                  clear p2
                  cases hh : hasB m (i : Int) with
                  | true =>
                    rw [hh, if_pos rfl, ← unhide HN] at HS
                    have hn9 : n + 1 ≤ 16 := by have h8 := unhide HLe; rw [unhide HS] at h8; exact h8
                    clear hh
                    go_wp2
                    go_roundw
                    case rel => exact ⟨n + 1, i + 1, by omega, hn9, by go_num, by go_num, hide (by rw [← unhide HS]; simp), K2⟩
                    case measure => simp [intOf]; omega
                  | false =>
                    rw [hh, if_neg (by simp), ← unhide HN] at HS
                    clear hh
                    go_wp2
                    go_roundw
                    case rel => exact ⟨n, i + 1, by omega, hi2, rfl, by go_num, hide (by rw [show (((i + 1 : Nat)) : Int) = (i : Int) + 1 by simp, unhide HS]; rfl), K2⟩
                    case measure => simp [intOf]; omega
                · have hil' : ¬ (i : Int) < 16 := by omega
                  obtain rfl : i = 16 := by omega
                  have HE := hide (by rw [unhide HN]; unfold rankB; rw [if_neg (by decide), if_neg (by decide)] : n = cnt m 16)
                  go_wp2_with fail
                  refine Calls.mono (count_any m _ hm) ?_
                  rintro e y1 ⟨rfl, p1⟩
                  have K1 := hide ((unhide HKz).trans p1 (by simp))
                  clear p1
                  rw [← unhide HE]
                  go_wp2
                  go_ret
                  exact ⟨by simp, (unhide K1).below (Nat.le_refl _) (by simp)⟩
        · have hxy' : ¬ (dx : Int) < dy := by omega
          have d2 : decide ((dx : Int) < dy) = false := decide_eq_false hxy'
          have ho9 := unhide HO9
          rw [if_neg hxy] at ho9
          subst ho9
          go_wp2_with fail
          have HKs := hide ((unhide HK6).trans (unhide HK2) (by simp))
          refine Calls.mono (with_any 0 3 _ (by decide) (by decide)) ?_
          rintro e z1 ⟨rfl, q1⟩
          rw [show withB 0 3 = 8 by decide]
          have HZ1 := hide ((unhide HKs).trans q1 (by simp))
          clear q1
          go_wp2_with fail
          refine Calls.mono (count_any 8 _ (by decide)) ?_
          rintro e z2 ⟨rfl, q2⟩
          rw [show cnt 8 16 = 1 by decide]
          have HZ2 := hide ((unhide HZ1).trans q2 (by simp))
          clear q2
          go_wp2_with fail
          refine Calls.mono (has_any 8 4 _ (by decide) (by decide)) ?_
          rintro e z3 ⟨rfl, q3⟩
          rw [show hasB 8 4 = false by decide]
          have HZ3 := hide ((unhide HZ2).trans q3 (by simp))
          clear q3
          go_wp2_with fail
          go_loopw [25, 26] (fun t25 t26 wq => ∃ (m j : Nat), m < 65536 ∧ j ≤ ls.length ∧ t25 = .int .u16 m ∧ t26 = .int .i64 j ∧ Hid (Kept [] w wq)) (fun _ t _ => ls.length - (intOf t).toNat)
          case atStart => exact ⟨8, 0, by decide, by omega, rfl, rfl, HZ3⟩
          case round =>
            obtain ⟨m, j, hm, hj, rfl, rfl, HKq⟩ := hrel
            by_cases hjl : j < ls.length
            · have hjl' : (j : Int) < ls.length := by omega
              have HLq := hide ((unhide HL).old (unhide HKq) (by simp))
              obtain ⟨a9, n9, c9, e9, _, _, _, _, hby, hcl⟩ := id (unhide HLq)
              cases e9
              obtain ⟨gl, ol, rfl, hcell⟩ := hcl (by omega)
              have cj := hcell j (by omega)
              have hb9 : ls.getD j 0 < 256 := by rw [List.getD_eq_getElem?_getD, List.getElem?_eq_getElem hjl]; exact hby _ (List.getElem_mem hjl)
              obtain ⟨v, hv⟩ : ∃ v, ls.getD j 0 = v := ⟨_, rfl⟩
              rw [hv] at cj hb9
              obtain ⟨r, hr⟩ : ∃ r, v % 16 = r := ⟨_, rfl⟩
              have hr2 : (v : Int) % 16 = r := by omega
              have hr3 : (v : Int).tmod 16 = r := by rw [Int.tmod_eq_emod_of_nonneg (by omega)]; omega
              have hr15 : r ≤ 15 := by omega
              have hwv : IntKind.i64.wrap (v : Int) = v := by simp [IntKind.wrap, IntKind.signed, IntKind.bits]; omega
              clear hcell hcl hby hv hr
              have hi9 : -9223372036854775808 ≤ (r : Int) ∧ (r : Int) ≤ 9223372036854775807 := by omega
              have hMl := withB_lt m (r : Int) hm
              have q1 := hide (has_with m r hr15)
              have hcM := cnt_with m r hr15 16
              rw [if_pos (by omega)] at hcM
              have q3 := hide (out_with m r hr15)
              have hVl := outB_lt m (r : Int) hm
              have q4 := hide (by
                rw [hasB_in m r hr15]
                cases hx : m.testBit r with
                | true => rw [if_pos rfl, ← (eq_with m r hr15).2 hx]
                | false =>
                  rw [if_neg (by simp)]
                  have h9 := (eq_out m r hr15).2 hx
                  rw [← h9] at hcM
                  exact hcM : cnt (withB m (r : Int)) 16 = if hasB m (r : Int) then cnt m 16 else cnt m 16 + 1)
              have q5 := cnt_le m 16
              go_wp2_with fail
              refine Calls.mono (count_any m _ hm) ?_
              rintro e y1 ⟨rfl, p1⟩
              have K1 := hide ((unhide HKq).trans p1 (by simp))
              clear p1
              go_wp2_with fail
              refine Calls.mono (has_any m r _ hm hi9) ?_
              rintro e y2 ⟨rfl, p2⟩
              have K2 := hide ((unhide K1).trans p2 (by simp))
              clear p2
              go_wp2_with fail
              refine Calls.mono (with_any m r _ hm hi9) ?_
              rintro e y3 ⟨rfl, p3⟩
              have K3 := hide ((unhide K2).trans p3 (by simp))
              clear p3
              have q6 := hide (rfl : outB m (r : Int) = outB m (r : Int))
              generalize withB m (r : Int) = M at *
              generalize outB m (r : Int) = V at *
              go_wp2_with fail
              refine Calls.mono (has_any M r _ hMl hi9) ?_
              rintro e y4 ⟨rfl, p4⟩
              have K4 := hide ((unhide K3).trans p4 (by simp))
              clear p4
              rw [unhide q1]
              go_wp2_with fail
              refine Calls.mono (count_any M _ hMl) ?_
              rintro e y5 ⟨rfl, p5⟩
              have K5 := hide ((unhide K4).trans p5 (by simp))
              clear p5
              have hcM2 := unhide q4
              obtain ⟨cM, hcMe⟩ : ∃ cM, cnt M 16 = cM := ⟨_, rfl⟩
              obtain ⟨cm, hcme⟩ : ∃ cm, cnt m 16 = cm := ⟨_, rfl⟩
              obtain ⟨cV, hcVe⟩ : ∃ cV, cnt V 16 = cV := ⟨_, rfl⟩
              rw [hcMe, hcVe] at hcM
              rw [hcMe, hcme] at hcM2
              rw [hcme] at q5 ⊢
              rw [hcMe]
              cases hh : hasB m (r : Int) with
              | true =>
                rw [hh, if_pos rfl] at hcM2
                subst hcM2
                clear hh q4
                go_wp2_with fail
                refine Calls.mono (without_any M r _ hMl hi9) ?_
                rintro e y6 ⟨rfl, p6⟩
                have K6 := hide ((unhide K5).trans p6 (by simp))
                clear p6
                rw [unhide q3]
                go_wp2_with fail
                refine Calls.mono (count_any V _ hVl) ?_
                rintro e y7 ⟨rfl, p7⟩
                have K7 := hide ((unhide K6).trans p7 (by simp))
                clear p7
                rw [hcVe]
                go_wp2_with fail
                refine Calls.mono (count_any M _ hMl) ?_
                rintro e y8 ⟨rfl, p8⟩
                have K8 := hide ((unhide K7).trans p8 (by simp))
                clear p8
                rw [hcMe]
                have hcV2 : (cM : Int) = cV + 1 := by omega
                rw [hcV2]
                go_wp2
                go_roundw
                case rel => exact ⟨M, j + 1, hMl, by omega, rfl, by go_num, K8⟩
                case measure => simp [intOf]; omega
              | false =>
                rw [hh, if_neg (by simp)] at hcM2
                have hcM3 : (cM : Int) = cm + 1 := by omega
                clear hh q4
                rw [hcM3]
                go_wp2_with fail
                refine Calls.mono (without_any M r _ hMl hi9) ?_
                rintro e y6 ⟨rfl, p6⟩
                have K6 := hide ((unhide K5).trans p6 (by simp))
                clear p6
                rw [unhide q3]
                go_wp2_with fail
                refine Calls.mono (count_any V _ hVl) ?_
                rintro e y7 ⟨rfl, p7⟩
                have K7 := hide ((unhide K6).trans p7 (by simp))
                clear p7
                rw [hcVe]
                go_wp2_with fail
                refine Calls.mono (count_any M _ hMl) ?_
                rintro e y8 ⟨rfl, p8⟩
                have K8 := hide ((unhide K7).trans p8 (by simp))
                clear p8
                rw [hcMe]
                have hcV2 : (cM : Int) = cV + 1 := by omega
                rw [hcV2]
                go_wp2
                go_roundw
                case rel => exact ⟨M, j + 1, hMl, by omega, rfl, by go_num, K8⟩
                case measure => simp [intOf]; omega
            · have hjl' : ¬ (j : Int) < ls.length := by omega
              go_wp2_with fail
              go_loopw [30, 31] (fun t30 t31 wz => ∃ (n i : Nat), i ≤ 16 ∧ n ≤ 16 ∧ t30 = .int .i64 n ∧ t31 = .int .i64 i ∧ Hid (n = rankB m i) ∧ Hid (Kept [] w wz)) (fun _ t _ => 16 - (intOf t).toNat)
              case atStart => exact ⟨0, 0, by omega, by omega, rfl, rfl, hide (by simp [rankB, cnt, setB]), HKq⟩
              case round =>
                obtain ⟨n, i, hi1, hi2, rfl, rfl, HN, HKz⟩ := hrel
                by_cases hil : i < 16
                · have hil' : (i : Int) < 16 := by omega
                  have HS := hide (rank_step m i)
                  have HLe := hide (rankB_le m ((i : Int) + 1))
                  go_wp2_with fail
                  refine Calls.mono (rank_any m i _ hm (by omega)) ?_
                  rintro e y1 ⟨rfl, p1⟩
                  have K1 := hide ((unhide HKz).trans p1 (by simp))
                  clear p1
                  rw [← unhide HN]
                  go_wp2_with fail
                  refine Calls.mono (has_any m i _ hm (by omega)) ?_
                  rintro e y2 ⟨rfl, p2⟩
                  have K2 := hide ((unhide K1).trans p2 (by simp))
                  clear p2
                  cases hh : hasB m (i : Int) with
                  | true =>
                    rw [hh, if_pos rfl, ← unhide HN] at HS
                    have hn9 : n + 1 ≤ 16 := by have h8 := unhide HLe; rw [unhide HS] at h8; exact h8
                    clear hh
                    go_wp2
                    go_roundw
                    case rel => exact ⟨n + 1, i + 1, by omega, hn9, by go_num, by go_num, hide (by rw [← unhide HS]; simp), K2⟩
                    case measure => simp [intOf]; omega
                  | false =>
                    rw [hh, if_neg (by simp), ← unhide HN] at HS
                    clear hh
                    go_wp2
                    go_roundw
                    case rel => exact ⟨n, i + 1, by omega, hi2, rfl, by go_num, hide (by rw [show (((i + 1 : Nat)) : Int) = (i : Int) + 1 by simp, unhide HS]; rfl), K2⟩
                    case measure => simp [intOf]; omega
                · have hil' : ¬ (i : Int) < 16 := by omega
                  obtain rfl : i = 16 := by omega
                  have HE := hide (by rw [unhide HN]; unfold rankB; rw [if_neg (by decide), if_neg (by decide)] : n = cnt m 16)
                  go_wp2_with fail
                  refine Calls.mono (count_any m _ hm) ?_
                  rintro e y1 ⟨rfl, p1⟩
                  have K1 := hide ((unhide HKz).trans p1 (by simp))
                  clear p1
                  rw [← unhide HE]
                  go_wp2
                  go_ret
                  exact ⟨by simp, (unhide K1).below (Nat.le_refl _) (by simp)⟩
      · have hck' : ¬ (c : Int) < 2 * k := by omega
        clear hor
        go_wp2_with fail
        have HKs := hide ((unhide HK6).trans (unhide HKr) (by simp))
        refine Calls.mono (with_any 0 3 _ (by decide) (by decide)) ?_
        rintro e z1 ⟨rfl, q1⟩
        rw [show withB 0 3 = 8 by decide]
        have HZ1 := hide ((unhide HKs).trans q1 (by simp))
        clear q1
        go_wp2_with fail
        refine Calls.mono (count_any 8 _ (by decide)) ?_
        rintro e z2 ⟨rfl, q2⟩
        rw [show cnt 8 16 = 1 by decide]
        have HZ2 := hide ((unhide HZ1).trans q2 (by simp))
        clear q2
        go_wp2_with fail
        refine Calls.mono (has_any 8 4 _ (by decide) (by decide)) ?_
        rintro e z3 ⟨rfl, q3⟩
        rw [show hasB 8 4 = false by decide]
        have HZ3 := hide ((unhide HZ2).trans q3 (by simp))
        clear q3
        go_wp2_with fail
        go_loopw [25, 26] (fun t25 t26 wq => ∃ (m j : Nat), m < 65536 ∧ j ≤ ls.length ∧ t25 = .int .u16 m ∧ t26 = .int .i64 j ∧ Hid (Kept [] w wq)) (fun _ t _ => ls.length - (intOf t).toNat)
        case atStart => exact ⟨8, 0, by decide, by omega, rfl, rfl, HZ3⟩
        case round =>
          obtain ⟨m, j, hm, hj, rfl, rfl, HKq⟩ := hrel
          by_cases hjl : j < ls.length
          · have hjl' : (j : Int) < ls.length := by omega
            have HLq := hide ((unhide HL).old (unhide HKq) (by simp))
            obtain ⟨a9, n9, c9, e9, _, _, _, _, hby, hcl⟩ := id (unhide HLq)
            cases e9
            obtain ⟨gl, ol, rfl, hcell⟩ := hcl (by omega)
            have cj := hcell j (by omega)
            have hb9 : ls.getD j 0 < 256 := by rw [List.getD_eq_getElem?_getD, List.getElem?_eq_getElem hjl]; exact hby _ (List.getElem_mem hjl)
            obtain ⟨v, hv⟩ : ∃ v, ls.getD j 0 = v := ⟨_, rfl⟩
            rw [hv] at cj hb9
            obtain ⟨r, hr⟩ : ∃ r, v % 16 = r := ⟨_, rfl⟩
            have hr2 : (v : Int) % 16 = r := by omega
            have hr3 : (v : Int).tmod 16 = r := by rw [Int.tmod_eq_emod_of_nonneg (by omega)]; omega
            have hr15 : r ≤ 15 := by omega
            have hwv : IntKind.i64.wrap (v : Int) = v := by simp [IntKind.wrap, IntKind.signed, IntKind.bits]; omega
            clear hcell hcl hby hv hr
            have hi9 : -9223372036854775808 ≤ (r : Int) ∧ (r : Int) ≤ 9223372036854775807 := by omega
            have hMl := withB_lt m (r : Int) hm
            have q1 := hide (has_with m r hr15)
            have hcM := cnt_with m r hr15 16
            rw [if_pos (by omega)] at hcM
            have q3 := hide (out_with m r hr15)
            have hVl := outB_lt m (r : Int) hm
            have q4 := hide (by
              rw [hasB_in m r hr15]
              cases hx : m.testBit r with
              | true => rw [if_pos rfl, ← (eq_with m r hr15).2 hx]
              | false =>
                rw [if_neg (by simp)]
                have h9 := (eq_out m r hr15).2 hx
                rw [← h9] at hcM
                exact hcM : cnt (withB m (r : Int)) 16 = if hasB m (r : Int) then cnt m 16 else cnt m 16 + 1)
            have q5 := cnt_le m 16
            go_wp2_with fail
            refine Calls.mono (count_any m _ hm) ?_
            rintro e y1 ⟨rfl, p1⟩
            have K1 := hide ((unhide HKq).trans p1 (by simp))
            clear p1
            go_wp2_with fail
            refine Calls.mono (has_any m r _ hm hi9) ?_
            rintro e y2 ⟨rfl, p2⟩
            have K2 := hide ((unhide K1).trans p2 (by simp))
            clear p2
            go_wp2_with fail
            refine Calls.mono (with_any m r _ hm hi9) ?_
            rintro e y3 ⟨rfl, p3⟩
            have K3 := hide ((unhide K2).trans p3 (by simp))
            clear p3
            have q6 := hide (rfl : outB m (r : Int) = outB m (r : Int))
            generalize withB m (r : Int) = M at *
            generalize outB m (r : Int) = V at *
            go_wp2_with fail
            refine Calls.mono (has_any M r _ hMl hi9) ?_
            rintro e y4 ⟨rfl, p4⟩
            have K4 := hide ((unhide K3).trans p4 (by simp))
            clear p4
            rw [unhide q1]
            go_wp2_with fail
            refine Calls.mono (count_any M _ hMl) ?_
            rintro e y5 ⟨rfl, p5⟩
            have K5 := hide ((unhide K4).trans p5 (by simp))
            clear p5
            have hcM2 := unhide q4
            obtain ⟨cM, hcMe⟩ : ∃ cM, cnt M 16 = cM := ⟨_, rfl⟩
            obtain ⟨cm, hcme⟩ : ∃ cm, cnt m 16 = cm := ⟨_, rfl⟩
            obtain ⟨cV, hcVe⟩ : ∃ cV, cnt V 16 = cV := ⟨_, rfl⟩
            rw [hcMe, hcVe] at hcM
            rw [hcMe, hcme] at hcM2
            rw [hcme] at q5 ⊢
            rw [hcMe]
            cases hh : hasB m (r : Int) with
            | true =>
              rw [hh, if_pos rfl] at hcM2
              subst hcM2
              clear hh q4
              go_wp2_with fail
              refine Calls.mono (without_any M r _ hMl hi9) ?_
              rintro e y6 ⟨rfl, p6⟩
              have K6 := hide ((unhide K5).trans p6 (by simp))
              clear p6
              rw [unhide q3]
              go_wp2_with fail
              refine Calls.mono (count_any V _ hVl) ?_
              rintro e y7 ⟨rfl, p7⟩
              have K7 := hide ((unhide K6).trans p7 (by simp))
              clear p7
              rw [hcVe]
              go_wp2_with fail
              refine Calls.mono (count_any M _ hMl) ?_
              rintro e y8 ⟨rfl, p8⟩
              have K8 := hide ((unhide K7).trans p8 (by simp))
              clear p8
              rw [hcMe]
              have hcV2 : (cM : Int) = cV + 1 := by omega
              rw [hcV2]
              go_wp2
              go_roundw
              case rel => exact ⟨M, j + 1, hMl, by omega, rfl, by go_num, K8⟩
              case measure => simp [intOf]; omega
            | false =>
              rw [hh, if_neg (by simp)] at hcM2
              have hcM3 : (cM : Int) = cm + 1 := by omega
              clear hh q4
              rw [hcM3]
              go_wp2_with fail
              refine Calls.mono (without_any M r _ hMl hi9) ?_
              rintro e y6 ⟨rfl, p6⟩
              have K6 := hide ((unhide K5).trans p6 (by simp))
              clear p6
              rw [unhide q3]
              go_wp2_with fail
              refine Calls.mono (count_any V _ hVl) ?_
              rintro e y7 ⟨rfl, p7⟩
              have K7 := hide ((unhide K6).trans p7 (by simp))
              clear p7
              rw [hcVe]
              go_wp2_with fail
              refine Calls.mono (count_any M _ hMl) ?_
              rintro e y8 ⟨rfl, p8⟩
              have K8 := hide ((unhide K7).trans p8 (by simp))
              clear p8
              rw [hcMe]
              have hcV2 : (cM : Int) = cV + 1 := by omega
              rw [hcV2]
              go_wp2
              go_roundw
              case rel => exact ⟨M, j + 1, hMl, by omega, rfl, by go_num, K8⟩
              case measure => simp [intOf]; omega
          · have hjl' : ¬ (j : Int) < ls.length := by omega
            go_wp2_with fail
            go_loopw [30, 31] (fun t30 t31 wz => ∃ (n i : Nat), i ≤ 16 ∧ n ≤ 16 ∧ t30 = .int .i64 n ∧ t31 = .int .i64 i ∧ Hid (n = rankB m i) ∧ Hid (Kept [] w wz)) (fun _ t _ => 16 - (intOf t).toNat)
            case atStart => exact ⟨0, 0, by omega, by omega, rfl, rfl, hide (by simp [rankB, cnt, setB]), HKq⟩
            case round =>
              obtain ⟨n, i, hi1, hi2, rfl, rfl, HN, HKz⟩ := hrel
              by_cases hil : i < 16
              · have hil' : (i : Int) < 16 := by omega
                have HS := hide (rank_step m i)
                have HLe := hide (rankB_le m ((i : Int) + 1))
                go_wp2_with fail
                refine Calls.mono (rank_any m i _ hm (by omega)) ?_
                rintro e y1 ⟨rfl, p1⟩
                have K1 := hide ((unhide HKz).trans p1 (by simp))
                clear p1
                rw [← unhide HN]
                go_wp2_with fail
                refine Calls.mono (has_any m i _ hm (by omega)) ?_
                rintro e y2 ⟨rfl, p2⟩
                have K2 := hide ((unhide K1).trans p2 (by simp))
                clear p2
                cases hh : hasB m (i : Int) with
                | true =>
                  rw [hh, if_pos rfl, ← unhide HN] at HS
                  have hn9 : n + 1 ≤ 16 := by have h8 := unhide HLe; rw [unhide HS] at h8; exact h8
                  clear hh
                  go_wp2
                  go_roundw
                  case rel => exact ⟨n + 1, i + 1, by omega, hn9, by go_num, by go_num, hide (by rw [← unhide HS]; simp), K2⟩
                  case measure => simp [intOf]; omega
                | false =>
                  rw [hh, if_neg (by simp), ← unhide HN] at HS
                  clear hh
                  go_wp2
                  go_roundw
                  case rel => exact ⟨n, i + 1, by omega, hi2, rfl, by go_num, hide (by rw [show (((i + 1 : Nat)) : Int) = (i : Int) + 1 by simp, unhide HS]; rfl), K2⟩
                  case measure => simp [intOf]; omega
              · have hil' : ¬ (i : Int) < 16 := by omega
                obtain rfl : i = 16 := by omega
                have HE := hide (by rw [unhide HN]; unfold rankB; rw [if_neg (by decide), if_neg (by decide)] : n = cnt m 16)
                go_wp2_with fail
                refine Calls.mono (count_any m _ hm) ?_
                rintro e y1 ⟨rfl, p1⟩
                have K1 := hide ((unhide HKz).trans p1 (by simp))
                clear p1
                rw [← unhide HE]
                go_wp2
                go_ret
                exact ⟨by simp, (unhide K1).below (Nat.le_refl _) (by simp)⟩
end Go.Proofs.Ytclgblilgpfllab
