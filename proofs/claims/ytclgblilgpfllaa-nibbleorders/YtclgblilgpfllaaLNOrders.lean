import Derived.Test.YtclgblilgpfllaaNOrd2
import Derived.Test.YtclgblilgpfllaaLNDigits
namespace Go.Proofs.Ytclgblilgpfllaa
open Go.RowKit Go.BigFrame
set_option linter.unusedVariables false
set_option linter.unusedSimpArgs false

set_option maxRecDepth 100000 in
set_option maxHeartbeats 4000000 in
theorem nibbleOrders_walk (z : Int) (a b : List Nat) (w : World) (hz : -9223372036854775808 ≤ z ∧ z ≤ 9223372036854775807) (ha : Dg a) (hb : Dg b) :
    Calls Try.prog 7 #[.int .i64 z, .agg (brow a), .agg (brow b)] w fun e w' => e = .returned (.bool true) ∧ Below w.heap.size w w' := by
  have hal := ha.1
  have hbl := hb.1
  have HGA := hide (((Kept.refl [] (w.alloc (.cells (brow a) 23))).alloc (.cells (brow b) 23)).heap (heap_alloc_new w (.cells (brow a) 23)) (by simp))
  have HGB := hide (alloc_at w (.cells (brow a) 23) (.cells (brow b) 23))
  have HK0 := hide (((Kept.refl [] w).alloc (.cells (brow a) 23)).alloc (.cells (brow b) 23))
  have HZA := hide (by rw [brow_size, hal]; exact Try.size_dig : (Try.prog.info? 23).map (·.size) = some (brow a).size)
  have HZB := hide (by rw [brow_size, hbl]; exact Try.size_dig : (Try.prog.info? 23).map (·.size) = some (brow b).size)
  go_enter Try.func7, Try.ntmps7
  go_wp2_with fail
  refine Calls.mono (nawake_any _) ?_
  rintro e w1 ⟨rfl, k1⟩
  have HK1 := hide ((unhide HK0).trans k1 (by simp))
  have HA1 := hide (k1.heap (unhide HGA) (by simp))
  have HB1 := hide (k1.heap (unhide HGB) (by simp))
  clear k1 HGA HGB HK0
  go_wp2_with (first
    | (refine wpList_load_row rfl 23 _ rfl w.heap.size rfl _ (brow a) (0, 0) _ (unhide HA1) Try.underlying23 rfl (unhide HZA) ?_)
    | (refine wpList_load_row rfl 23 _ rfl (w.heap.size + 1) rfl _ (brow b) (0, 0) _ (unhide HB1) Try.underlying23 rfl (unhide HZB) ?_))
  refine Calls.mono (fit_any z a b _ hz ha hb) ?_
  rintro e w2 ⟨rfl, k2⟩
  have HK2 := hide ((unhide HK1).trans k2 (by simp))
  have HA2 := hide (k2.heap (unhide HA1) (by simp))
  have HB2 := hide (k2.heap (unhide HB1) (by simp))
  clear k2 HA1 HB1 HK1
  cases hfit : fitB z a b with
  | false =>
    clear hfit
    go_wp2
    go_ret
    exact ⟨rfl, (unhide HK2).below (Nat.le_refl _) (by simp)⟩
  | true =>
    have hff := fit_formed hfit
    have hff2 := formed_swap hff
    obtain ⟨k, rfl, hk1, hk⟩ := wid_of hff
    have HFA := hide (formed_two hff).1
    have HFB := hide (formed_two hff).2
    have HCO := hide (com_ord ha hb hk1 hk hff)
    have HSP := hide (comL_spec a b (2 * k) 0)
    have HFD := hide (fun i hi hp hd => first_diff (k := k) (i := i) ha hb hk hi hp hd)
    have hO1 : ordC (k : Int) a b = ordL a b := by unfold ordC; rw [if_pos hff]
    have hO2 : ordC (k : Int) b a = - ordL a b := by unfold ordC; rw [if_pos hff2]; exact ordL_anti b a
    have hC1 : comC (k : Int) a b = comL a b (2 * k) 0 := by unfold comC; rw [if_pos hff, Int.toNat_natCast]
    have hor := ordL_range a b
    clear hfit
    have hk2 : IntKind.i64.wrap (2 * (k : Int)) = 2 * (k : Int) := by simp [IntKind.wrap, IntKind.signed, IntKind.bits]; omega
    go_wp2_with (first
      | (refine wpList_load_row rfl 23 _ rfl w.heap.size rfl _ (brow a) (0, 0) _ (unhide HA2) Try.underlying23 rfl (unhide HZA) ?_)
      | (refine wpList_load_row rfl 23 _ rfl (w.heap.size + 1) rfl _ (brow b) (0, 0) _ (unhide HB2) Try.underlying23 rfl (unhide HZB) ?_))
    refine Calls.mono (order_any k a b _ hz ha hb) ?_
    rintro e w3 ⟨rfl, k3⟩
    rw [hO1, hff]
    have HK3 := hide ((unhide HK2).trans k3 (by simp))
    have HA3 := hide (k3.heap (unhide HA2) (by simp))
    have HB3 := hide (k3.heap (unhide HB2) (by simp))
    clear k3 HA2 HB2 HK2
    go_wp2_with (first
      | (refine wpList_load_row rfl 23 _ rfl w.heap.size rfl _ (brow a) (0, 0) _ (unhide HA3) Try.underlying23 rfl (unhide HZA) ?_)
      | (refine wpList_load_row rfl 23 _ rfl (w.heap.size + 1) rfl _ (brow b) (0, 0) _ (unhide HB3) Try.underlying23 rfl (unhide HZB) ?_))
    refine Calls.mono (order_any k b a _ hz hb ha) ?_
    rintro e w4 ⟨rfl, k4⟩
    rw [hO2, hff2]
    have HK4 := hide ((unhide HK3).trans k4 (by simp))
    have HA4 := hide (k4.heap (unhide HA3) (by simp))
    have HB4 := hide (k4.heap (unhide HB3) (by simp))
    clear k4 HA3 HB3 HK3
    go_wp2_with (first
      | (refine wpList_load_row rfl 23 _ rfl w.heap.size rfl _ (brow a) (0, 0) _ (unhide HA4) Try.underlying23 rfl (unhide HZA) ?_)
      | (refine wpList_load_row rfl 23 _ rfl (w.heap.size + 1) rfl _ (brow b) (0, 0) _ (unhide HB4) Try.underlying23 rfl (unhide HZB) ?_))
    refine Calls.mono (common_any k a b _ hz ha hb) ?_
    rintro e w5 ⟨rfl, k5⟩
    rw [hC1, hff]
    have HK5 := hide ((unhide HK4).trans k5 (by simp))
    have HA5 := hide (k5.heap (unhide HA4) (by simp))
    have HB5 := hide (k5.heap (unhide HB4) (by simp))
    clear k5 HA4 HB4 HK4 hO1 hO2 hC1 hff hff2
    have hcle := (unhide HSP).2.1
    have hqd : ∀ W, (Op.equalIn 10000 23 (.agg (brow a)) (.agg (brow b))).run Try.prog W = .ok (decide (a = b)) W := fun W => dig_eq W a b hal hbl
    have f1 : (ordL a b == 0) = decide (a = b) := by
      rcases unhide HCO with ⟨_, e, h⟩ | ⟨_, e, _, h⟩
      · rw [h, decide_eq_true e]; rfl
      · rw [h, decide_eq_false e]; split <;> rfl
    have f2 : (((comL a b (2 * k) 0 : Nat) : Int) == 2 * (k : Int)) = decide (a = b) := by
      rcases unhide HCO with ⟨h, e, _⟩ | ⟨h, e, _, _⟩
      · rw [h, decide_eq_true e, beq_iff_eq]; omega
      · rw [decide_eq_false e, beq_eq_false_iff_ne]; omega
    clear HCO
    generalize comL a b (2 * k) 0 = c at *
    generalize ordL a b = o at *
    obtain ⟨E, hE⟩ : ∃ E, decide (a = b) = E := ⟨_, rfl⟩
    rw [hE] at f1 f2 hqd
    clear hE
    have f3 : (E != E) = false := by simp
    have f4 : decide ((c : Int) < 0) = false := decide_eq_false (by omega)
    have f5 : decide (2 * (k : Int) < c) = false := decide_eq_false (by omega)
    have f6 : (o != o) = false := by simp
    have hw9 : IntKind.i64.wrap (- -o) = o := by rw [Int.neg_neg]; simp [IntKind.wrap, IntKind.signed, IntKind.bits]; omega
    have hcI : (c : Int) ≤ 2 * (k : Int) := by omega
    go_wp2_with (first
      | (refine wpList_load_rowG rfl 23 _ rfl w.heap.size rfl _ (brow a) (0, 0) _ (unhide HA5) Try.underlying23 rfl (unhide HZA) ?_)
      | (refine wpList_load_rowG rfl 23 _ rfl (w.heap.size + 1) rfl _ (brow b) (0, 0) _ (unhide HB5) Try.underlying23 rfl (unhide HZB) ?_))
    go_loopw [13] (fun t13 wr => ∃ (i : Nat), i ≤ k ∧ t13 = .int .i64 i ∧ Hid (∀ j, j < i → a.getD j 0 = b.getD j 0) ∧ Hid (Kept [] w5 wr)) (fun t _ => k - (intOf t).toNat)
    case atStart => exact ⟨0, by omega, rfl, hide (fun j hj => by omega), hide (Kept.refl _ _)⟩
    case round =>
      obtain ⟨i, hi, rfl, HP, HKr⟩ := hrel
      have HAr := hide ((unhide HKr).heap (unhide HA5) (by simp))
      have HBr := hide ((unhide HKr).heap (unhide HB5) (by simp))
      by_cases hlt : i < k
      · have hlt' : (i : Int) < k := by omega
        have hi32 : (i : Int) < 32 := by omega
        have ca := brow_cell (unhide HAr) i (by omega)
        have cb := brow_cell (unhide HBr) i (by omega)
        have HX := hide (unhide HFD i hlt (unhide HP))
        obtain ⟨x, hx⟩ : ∃ x, a.getD i 0 = x := ⟨_, rfl⟩
        obtain ⟨y, hy⟩ : ∃ y, b.getD i 0 = y := ⟨_, rfl⟩
        rw [hx] at ca HX
        rw [hy] at cb HX
        go_wp2_with fail
        go_region_held3 (fun w' => w'.cell? ⟨w.heap.size, i, none⟩ = some (Go.Proofs.Ytclgblilgpfllaa.u8 x) ∧ w'.cell? ⟨w.heap.size + 1, i, none⟩ = some (Go.Proofs.Ytclgblilgpfllaa.u8 y)) (go_keep) (fail)
        by_cases hxy : x = y
        · have HPN := hide (fun j hj => by
            rcases Nat.lt_or_ge j i with g | g
            · exact unhide HP j g
            · rw [show j = i by omega, hx, hy]; exact hxy : ∀ j, j < i + 1 → a.getD j 0 = b.getD j 0)
          clear hx hy HX
          subst hxy
          go_wp2
          go_roundw
          case rel => exact ⟨i + 1, by omega, by go_num, HPN, hide (unhide HKr).drew⟩
          case measure => simp [intOf]; omega
        · have HXX := unhide HX hxy
          have hxy' : ((x : Int) != y) = true := by rw [bne_iff_ne]; omega
          clear hx hy HX
          have hcd2 : (c : Int).tdiv 2 = i := by rw [Int.tdiv_eq_ediv_of_nonneg (by omega)]; omega
          have hcd3 : (c : Int) / 2 = i := by omega
          have hcd1 : IntKind.i64.wrap ((c : Int).tdiv 2) = i := by rw [hcd2]; simp [IntKind.wrap, IntKind.signed, IntKind.bits]; omega
          obtain ⟨B, hB⟩ : ∃ B, (o == -1) = B := ⟨_, rfl⟩
          have hB2 : decide ((x : Int) < y) = B := by
            rw [← hB]
            by_cases g : x < y
            · rw [decide_eq_true (by omega : (x : Int) < y), HXX.2.1.1 g]; rfl
            · rw [decide_eq_false (by omega : ¬ (x : Int) < y)]
              symm
              rw [beq_eq_false_iff_ne]
              exact fun h => g (HXX.2.1.2 h)
          have hB3 : (B != B) = false := by simp
          have hwi : IntKind.i64.wrap (i : Int) = i := by simp [IntKind.wrap, IntKind.signed, IntKind.bits]; omega
          have hii : (IntKind.i64.wrap (i : Int) != i) = false := by rw [hwi]; simp
          clear hB3
          cases B with
          | true =>
            have hx1 : (x : Int) < y := of_decide_eq_true hB2
            have ho1 : o = -1 := by simpa using hB
            subst ho1
            go_wp2_with fail
            go_region_held3 (fun w' => w'.cell? ⟨w.heap.size, i, none⟩ = some (Go.Proofs.Ytclgblilgpfllaa.u8 x) ∧ w'.cell? ⟨w.heap.size + 1, i, none⟩ = some (Go.Proofs.Ytclgblilgpfllaa.u8 y)) (go_keep) (fail)
            have HKX := hide (((unhide HK5).trans (unhide HKr) (by simp)).drew.drew)
            have HAX := hide (((Kept.refl [] wr).drew.drew).heap (unhide HAr) (by simp))
            have HBX := hide (((Kept.refl [] wr).drew.drew).heap (unhide HBr) (by simp))
            obtain ⟨X, hX⟩ : ∃ X, wr.drew.drew = X := ⟨_, rfl⟩
            rw [hX] at HKX HAX HBX ⊢
            clear hX ca cb
            go_wp2_with fail
            go_loopw [14] (fun t14 wq => ∃ (m : Nat), m ≤ 2 * k ∧ m ≤ c + 1 ∧ t14 = .int .i64 m ∧ Hid (Kept [] X wq)) (fun t _ => 2 * k - (intOf t).toNat)
            case atStart => exact ⟨0, by omega, by omega, rfl, hide (Kept.refl _ _)⟩
            case round =>
              obtain ⟨m, hm1, hm2, rfl, HKq⟩ := hrel
              have HAq := hide ((unhide HKq).heap (unhide HAX) (by simp))
              have HBq := hide ((unhide HKq).heap (unhide HBX) (by simp))
              by_cases hmc : m ≤ c
              · by_cases hmk : m < 2 * k
                · have hmc' : (m : Int) ≤ c := by omega
                  have hmk' : (m : Int) < 2 * k := by omega
                  have dm1 : decide ((m : Int) ≤ c) = true := decide_eq_true hmc'
                  have dm2 : decide ((m : Int) < 2 * k) = true := decide_eq_true hmk'
                  obtain ⟨eA, cA⟩ := at_ok (unhide HFA) m hmk
                  obtain ⟨eB, cB⟩ := at_ok (unhide HFB) m hmk
                  have hdx := dgt_lt ha.2 m
                  have hdy := dgt_lt hb.2 m
                  have HEQ := hide (by
                    by_cases g : m < c
                    · rw [decide_eq_true (by omega : (m : Int) < c), beq_iff_eq, (unhide HSP).2.2.1 m (by omega) g]
                    · rw [decide_eq_false (by omega : ¬ (m : Int) < c), beq_eq_false_iff_ne]
                      obtain rfl : m = c := by omega
                      have h9 := (unhide HSP).2.2.2 (by omega)
                      omega : (((dgt a m : Nat) : Int) == ((dgt b m : Nat) : Int)) = decide ((m : Int) < c))
                  go_wp2_with (refine wpList_load_row rfl 23 _ rfl w.heap.size rfl _ (brow a) (0, 0) _ (unhide HAq) Try.underlying23 rfl (unhide HZA) ?_)
                  refine Calls.mono (at_any k a m _ hz (by omega) ha) ?_
                  rintro e v1 ⟨rfl, q1⟩
                  rw [eA, cA]
                  have HK1 := hide ((unhide HKq).trans q1 (by simp))
                  have HBB := hide (q1.heap (unhide HBq) (by simp))
                  clear q1
                  go_wp2_with (refine wpList_load_row rfl 23 _ rfl (w.heap.size + 1) rfl _ (brow b) (0, 0) _ (unhide HBB) Try.underlying23 rfl (unhide HZB) ?_)
                  refine Calls.mono (at_any k b m _ hz (by omega) hb) ?_
                  rintro e v2 ⟨rfl, q2⟩
                  rw [eB, cB]
                  have HK2 := hide ((unhide HK1).trans q2 (by simp))
                  clear q2 eA cA eB cB
                  have hEQ := unhide HEQ
                  generalize dgt a m = xa at *
                  generalize dgt b m = xb at *
                  by_cases g : m < c
                  · have g' : (m : Int) < c := by omega
                    have dF : decide ((m : Int) < c) = true := decide_eq_true g'
                    rw [dF, beq_iff_eq] at hEQ
                    obtain rfl : xa = xb := by omega
                    go_wp2
                    go_roundw
                    case rel => exact ⟨m + 1, by omega, by omega, by go_num, HK2⟩
                    case measure => simp [intOf]; omega
                  · have g' : ¬ (m : Int) < c := by omega
                    have dF : decide ((m : Int) < c) = false := decide_eq_false g'
                    rw [dF] at hEQ
                    have hne9 : ¬ (xa : Int) = xb := by simpa using hEQ
                    go_wp2
                    go_roundw
                    case rel => exact ⟨m + 1, by omega, by omega, by go_num, HK2⟩
                    case measure => simp [intOf]; omega
                · have hmc' : (m : Int) ≤ c := by omega
                  have hmk' : ¬ (m : Int) < 2 * k := by omega
                  have dm1 : decide ((m : Int) ≤ c) = true := decide_eq_true hmc'
                  have dm2 : decide ((m : Int) < 2 * k) = false := decide_eq_false hmk'
                  go_wp2
                  go_ret
                  exact ⟨rfl, ((unhide HKX).trans (unhide HKq) (by simp)).below (Nat.le_refl _) (by simp)⟩
              · have hmc' : ¬ (m : Int) ≤ c := by omega
                have dm1 : decide ((m : Int) ≤ c) = false := decide_eq_false hmc'
                go_wp2
                go_ret
                exact ⟨rfl, ((unhide HKX).trans (unhide HKq) (by simp)).below (Nat.le_refl _) (by simp)⟩
          | false =>
            have hx1 : ¬ (x : Int) < y := of_decide_eq_false hB2
            have ho1 : o = 1 := HXX.2.2 (by omega)
            subst ho1
            go_wp2_with fail
            go_region_held3 (fun w' => w'.cell? ⟨w.heap.size, i, none⟩ = some (Go.Proofs.Ytclgblilgpfllaa.u8 x) ∧ w'.cell? ⟨w.heap.size + 1, i, none⟩ = some (Go.Proofs.Ytclgblilgpfllaa.u8 y)) (go_keep) (fail)
            have HKX := hide (((unhide HK5).trans (unhide HKr) (by simp)).drew.drew)
            have HAX := hide (((Kept.refl [] wr).drew.drew).heap (unhide HAr) (by simp))
            have HBX := hide (((Kept.refl [] wr).drew.drew).heap (unhide HBr) (by simp))
            obtain ⟨X, hX⟩ : ∃ X, wr.drew.drew = X := ⟨_, rfl⟩
            rw [hX] at HKX HAX HBX ⊢
            clear hX ca cb
            go_wp2_with fail
            go_loopw [14] (fun t14 wq => ∃ (m : Nat), m ≤ 2 * k ∧ m ≤ c + 1 ∧ t14 = .int .i64 m ∧ Hid (Kept [] X wq)) (fun t _ => 2 * k - (intOf t).toNat)
            case atStart => exact ⟨0, by omega, by omega, rfl, hide (Kept.refl _ _)⟩
            case round =>
              obtain ⟨m, hm1, hm2, rfl, HKq⟩ := hrel
              have HAq := hide ((unhide HKq).heap (unhide HAX) (by simp))
              have HBq := hide ((unhide HKq).heap (unhide HBX) (by simp))
              by_cases hmc : m ≤ c
              · by_cases hmk : m < 2 * k
                · have hmc' : (m : Int) ≤ c := by omega
                  have hmk' : (m : Int) < 2 * k := by omega
                  have dm1 : decide ((m : Int) ≤ c) = true := decide_eq_true hmc'
                  have dm2 : decide ((m : Int) < 2 * k) = true := decide_eq_true hmk'
                  obtain ⟨eA, cA⟩ := at_ok (unhide HFA) m hmk
                  obtain ⟨eB, cB⟩ := at_ok (unhide HFB) m hmk
                  have hdx := dgt_lt ha.2 m
                  have hdy := dgt_lt hb.2 m
                  have HEQ := hide (by
                    by_cases g : m < c
                    · rw [decide_eq_true (by omega : (m : Int) < c), beq_iff_eq, (unhide HSP).2.2.1 m (by omega) g]
                    · rw [decide_eq_false (by omega : ¬ (m : Int) < c), beq_eq_false_iff_ne]
                      obtain rfl : m = c := by omega
                      have h9 := (unhide HSP).2.2.2 (by omega)
                      omega : (((dgt a m : Nat) : Int) == ((dgt b m : Nat) : Int)) = decide ((m : Int) < c))
                  go_wp2_with (refine wpList_load_row rfl 23 _ rfl w.heap.size rfl _ (brow a) (0, 0) _ (unhide HAq) Try.underlying23 rfl (unhide HZA) ?_)
                  refine Calls.mono (at_any k a m _ hz (by omega) ha) ?_
                  rintro e v1 ⟨rfl, q1⟩
                  rw [eA, cA]
                  have HK1 := hide ((unhide HKq).trans q1 (by simp))
                  have HBB := hide (q1.heap (unhide HBq) (by simp))
                  clear q1
                  go_wp2_with (refine wpList_load_row rfl 23 _ rfl (w.heap.size + 1) rfl _ (brow b) (0, 0) _ (unhide HBB) Try.underlying23 rfl (unhide HZB) ?_)
                  refine Calls.mono (at_any k b m _ hz (by omega) hb) ?_
                  rintro e v2 ⟨rfl, q2⟩
                  rw [eB, cB]
                  have HK2 := hide ((unhide HK1).trans q2 (by simp))
                  clear q2 eA cA eB cB
                  have hEQ := unhide HEQ
                  generalize dgt a m = xa at *
                  generalize dgt b m = xb at *
                  by_cases g : m < c
                  · have g' : (m : Int) < c := by omega
                    have dF : decide ((m : Int) < c) = true := decide_eq_true g'
                    rw [dF, beq_iff_eq] at hEQ
                    obtain rfl : xa = xb := by omega
                    go_wp2
                    go_roundw
                    case rel => exact ⟨m + 1, by omega, by omega, by go_num, HK2⟩
                    case measure => simp [intOf]; omega
                  · have g' : ¬ (m : Int) < c := by omega
                    have dF : decide ((m : Int) < c) = false := decide_eq_false g'
                    rw [dF] at hEQ
                    have hne9 : ¬ (xa : Int) = xb := by simpa using hEQ
                    go_wp2
                    go_roundw
                    case rel => exact ⟨m + 1, by omega, by omega, by go_num, HK2⟩
                    case measure => simp [intOf]; omega
                · have hmc' : (m : Int) ≤ c := by omega
                  have hmk' : ¬ (m : Int) < 2 * k := by omega
                  have dm1 : decide ((m : Int) ≤ c) = true := decide_eq_true hmc'
                  have dm2 : decide ((m : Int) < 2 * k) = false := decide_eq_false hmk'
                  go_wp2
                  go_ret
                  exact ⟨rfl, ((unhide HKX).trans (unhide HKq) (by simp)).below (Nat.le_refl _) (by simp)⟩
              · have hmc' : ¬ (m : Int) ≤ c := by omega
                have dm1 : decide ((m : Int) ≤ c) = false := decide_eq_false hmc'
                go_wp2
                go_ret
                exact ⟨rfl, ((unhide HKX).trans (unhide HKq) (by simp)).below (Nat.le_refl _) (by simp)⟩
      · have hlt' : ¬ (i : Int) < k := by omega
        have HKX := hide ((unhide HK5).trans (unhide HKr) (by simp))
        have HAX := HAr
        have HBX := HBr
        obtain ⟨X, hX⟩ : ∃ X, wr = X := ⟨_, rfl⟩
        rw [hX] at HKX HAX HBX ⊢
        clear hX
        go_wp2_with fail
        go_loopw [14] (fun t14 wq => ∃ (m : Nat), m ≤ 2 * k ∧ m ≤ c + 1 ∧ t14 = .int .i64 m ∧ Hid (Kept [] X wq)) (fun t _ => 2 * k - (intOf t).toNat)
        case atStart => exact ⟨0, by omega, by omega, rfl, hide (Kept.refl _ _)⟩
        case round =>
          obtain ⟨m, hm1, hm2, rfl, HKq⟩ := hrel
          have HAq := hide ((unhide HKq).heap (unhide HAX) (by simp))
          have HBq := hide ((unhide HKq).heap (unhide HBX) (by simp))
          by_cases hmc : m ≤ c
          · by_cases hmk : m < 2 * k
            · have hmc' : (m : Int) ≤ c := by omega
              have hmk' : (m : Int) < 2 * k := by omega
              have dm1 : decide ((m : Int) ≤ c) = true := decide_eq_true hmc'
              have dm2 : decide ((m : Int) < 2 * k) = true := decide_eq_true hmk'
              obtain ⟨eA, cA⟩ := at_ok (unhide HFA) m hmk
              obtain ⟨eB, cB⟩ := at_ok (unhide HFB) m hmk
              have hdx := dgt_lt ha.2 m
              have hdy := dgt_lt hb.2 m
              have HEQ := hide (by
                by_cases g : m < c
                · rw [decide_eq_true (by omega : (m : Int) < c), beq_iff_eq, (unhide HSP).2.2.1 m (by omega) g]
                · rw [decide_eq_false (by omega : ¬ (m : Int) < c), beq_eq_false_iff_ne]
                  obtain rfl : m = c := by omega
                  have h9 := (unhide HSP).2.2.2 (by omega)
                  omega : (((dgt a m : Nat) : Int) == ((dgt b m : Nat) : Int)) = decide ((m : Int) < c))
              go_wp2_with (refine wpList_load_row rfl 23 _ rfl w.heap.size rfl _ (brow a) (0, 0) _ (unhide HAq) Try.underlying23 rfl (unhide HZA) ?_)
              refine Calls.mono (at_any k a m _ hz (by omega) ha) ?_
              rintro e v1 ⟨rfl, q1⟩
              rw [eA, cA]
              have HK1 := hide ((unhide HKq).trans q1 (by simp))
              have HBB := hide (q1.heap (unhide HBq) (by simp))
              clear q1
              go_wp2_with (refine wpList_load_row rfl 23 _ rfl (w.heap.size + 1) rfl _ (brow b) (0, 0) _ (unhide HBB) Try.underlying23 rfl (unhide HZB) ?_)
              refine Calls.mono (at_any k b m _ hz (by omega) hb) ?_
              rintro e v2 ⟨rfl, q2⟩
              rw [eB, cB]
              have HK2 := hide ((unhide HK1).trans q2 (by simp))
              clear q2 eA cA eB cB
              have hEQ := unhide HEQ
              generalize dgt a m = xa at *
              generalize dgt b m = xb at *
              by_cases g : m < c
              · have g' : (m : Int) < c := by omega
                have dF : decide ((m : Int) < c) = true := decide_eq_true g'
                rw [dF, beq_iff_eq] at hEQ
                obtain rfl : xa = xb := by omega
                go_wp2
                go_roundw
                case rel => exact ⟨m + 1, by omega, by omega, by go_num, HK2⟩
                case measure => simp [intOf]; omega
              · have g' : ¬ (m : Int) < c := by omega
                have dF : decide ((m : Int) < c) = false := decide_eq_false g'
                rw [dF] at hEQ
                have hne9 : ¬ (xa : Int) = xb := by simpa using hEQ
                go_wp2
                go_roundw
                case rel => exact ⟨m + 1, by omega, by omega, by go_num, HK2⟩
                case measure => simp [intOf]; omega
            · have hmc' : (m : Int) ≤ c := by omega
              have hmk' : ¬ (m : Int) < 2 * k := by omega
              have dm1 : decide ((m : Int) ≤ c) = true := decide_eq_true hmc'
              have dm2 : decide ((m : Int) < 2 * k) = false := decide_eq_false hmk'
              go_wp2
              go_ret
              exact ⟨rfl, ((unhide HKX).trans (unhide HKq) (by simp)).below (Nat.le_refl _) (by simp)⟩
          · have hmc' : ¬ (m : Int) ≤ c := by omega
            have dm1 : decide ((m : Int) ≤ c) = false := decide_eq_false hmc'
            go_wp2
            go_ret
            exact ⟨rfl, ((unhide HKX).trans (unhide HKq) (by simp)).below (Nat.le_refl _) (by simp)⟩
end Go.Proofs.Ytclgblilgpfllaa
