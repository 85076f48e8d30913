import Derived.Test.YtclgblilgpfllabNAw
import Derived.Test.YtclgblilgpfllabNRank
namespace Go.Proofs.Ytclgblilgpfllab
open Go.RowKit Go.BigFrame
set_option linter.unusedVariables false
set_option linter.unusedSimpArgs false

theorem wpList_shrG {P : Program} {ops : Array Oper} {rest : List Oper} {o : Oper} {a : Act} {w : World} {Q : Exit → Act → World → Prop} (hw : Region.wanted o (yielded ops a.tmps) = true) (t t2 : TypeId) (x y : Operand)
    (ho : o.op = .binOp .shr t x y t2) (b i q : Nat) (hi : i < 16) (hx : a.eval x = .int .u16 (b : Int)) (hy : a.eval y = .int .i64 (i : Int)) (hq : (b : Int) / 2 ^ i = (q : Int)) (h : wpList P ops Q rest (a.put o.dst (.int .u16 (q : Int))) w) : wpList P ops Q (o :: rest) a w := by
  have e : (Op.shift .shr .u16 (b : Int) .i64 (i : Int)).run P w = .ok (.int .u16 (q : Int)) w := by
    rw [shift_shr .u16 .i64 (b : Int) (i : Int) (by omega) (by simp [IntKind.bits]; omega), Int.toNat_natCast, hq]
    rfl
  refine wpList_want hw fun K hK => ?_
  unfold Oper.wp execOp
  simp only [ho, hx, hy, binOp, eqGuard, Sem.run_bind, Bool.not_false, if_true, Sem.run_pure, Result.andThen_ok, e]
  exact hK _ _ h

set_option maxRecDepth 100000 in
set_option maxHeartbeats 4000000 in
theorem nibbleRanks_walk (b : Nat) (i : Int) (w : World) (hb : b < 65536) (hi : -9223372036854775808 ≤ i ∧ i ≤ 9223372036854775807) :
    Calls Try.prog 3 #[.int .u16 b, .int .i64 i] w fun e w' => e = .returned (.bool true) ∧ Below w.heap.size w w' := by
  go_enter Try.func3, Try.ntmps3
  go_wp2_with fail
  refine Calls.mono (nawake_any _) ?_
  rintro e w1 ⟨rfl, k1⟩
  have HK1 := hide k1
  clear k1
  go_wp2_with fail
  go_loopw [5, 6] (fun t5 t6 wr => ∃ (c : Nat) (j : Int), t5 = .int .i64 c ∧ t6 = .int .i64 j ∧ -2 ≤ j ∧ j ≤ 19 ∧ c ≤ 16 ∧ Hid (c = rankB b j) ∧ Hid (Kept [] w wr)) (fun _ t _ => (19 - intOf t).toNat)
  case atStart => exact ⟨0, -2, rfl, rfl, by decide, by decide, by decide, hide (by rfl), HK1⟩
  case round =>
    obtain ⟨c, j, rfl, rfl, hj1, hj2, hc, HC, HKr⟩ := hrel
    have HK5 := HKr
    by_cases hlt : j < 19
    · have HS := hide (rank_step b j)
      have HLe := hide (rankB_le b (j + 1))
      go_wp2_with fail
      refine Calls.mono (rank_any b j _ hb (by omega)) ?_
      rintro e w6 ⟨rfl, k6⟩
      have HK6 := hide ((unhide HK5).trans k6 (by simp))
      clear k6
      rw [← unhide HC]
      go_wp2_with fail
      refine Calls.mono (has_any b j _ hb (by omega)) ?_
      rintro e w7 ⟨rfl, k7⟩
      have HK7 := hide ((unhide HK6).trans k7 (by simp))
      clear k7
      cases hh : hasB b j with
      | false =>
        rw [hh, if_neg (by simp), ← unhide HC] at HS
        clear hh
        go_wp2
        go_roundw
        case rel => exact ⟨c, j + 1, rfl, by go_num, by omega, by omega, hc, hide (unhide HS).symm, HK7⟩
        case measure => simp [intOf]; omega
      | true =>
        rw [hh, if_pos rfl, ← unhide HC] at HS
        have h9 : 0 ≤ j ∧ j ≤ 15 ∧ b.testBit j.toNat = true := by
          unfold hasB at hh; simp only [Bool.and_eq_true, decide_eq_true_eq] at hh; exact hh
        obtain ⟨k, rfl⟩ : ∃ k : Nat, j = k := ⟨j.toNat, by omega⟩
        have hbit : b / 2 ^ k % 2 = 1 := by
          have h8 := h9.2.2
          rw [Int.toNat_natCast, Nat.testBit_eq_decide_div_mod_eq] at h8
          simpa using h8
        obtain ⟨q, hq⟩ : ∃ q, b / 2 ^ k = q := ⟨_, rfl⟩
        have HQ := hide (by rw [← hq, Int.natCast_ediv]; simp : (b : Int) / 2 ^ k = (q : Int))
        rw [hq] at hbit
        have hq2 : (q : Int) % 2 = 1 := by omega
        have hq3 : (q : Int).tmod 2 = 1 := by rw [Int.tmod_eq_emod_of_nonneg (by omega)]; omega
        have hk15 : (k : Int) ≤ 15 := h9.2.1
        have hk16 : k < 16 := by omega
        have hcle : c + 1 ≤ 16 := by have h8 := unhide HLe; rw [unhide HS] at h8; exact h8
        have d1 : decide ((k : Int) < 0) = false := decide_eq_false (by omega)
        have d2 : decide ((15 : Int) < k) = false := decide_eq_false (by omega)
        have d3 : ((q : Int) % 2 != 1) = false := by rw [hq2]; rfl
        have d4 : ((q : Int).tmod 2 != 1) = false := by rw [hq3]; rfl
        clear hh hq h9
        go_wp2_with (refine wpList_shrG rfl _ _ _ _ rfl b k _ hk16 rfl rfl (unhide HQ) ?_)
        refine ⟨⟨c + 1, k + 1, by simp, rfl, by omega, by omega, hcle, hide (unhide HS).symm, HK7⟩, ?_⟩
        simp [intOf]; omega
    · obtain rfl : j = 19 := by omega
      have HE := hide (by rw [unhide HC]; exact rankB_end b : c = cnt b 16)
      clear HC
      go_wp2_with fail
      refine Calls.mono (count_any b _ hb) ?_
      rintro e w6 ⟨rfl, k6⟩
      have HK6 := hide ((unhide HK5).trans k6 (by simp))
      clear k6
      rw [← unhide HE]
      go_wp2_with fail
      refine Calls.mono (with_any b i _ hb hi) ?_
      rintro e w7 ⟨rfl, k7⟩
      have HK7 := hide ((unhide HK6).trans k7 (by simp))
      clear k7
      go_wp2_with fail
      refine Calls.mono (without_any b i _ hb hi) ?_
      rintro e w8 ⟨rfl, k8⟩
      have HK8 := hide ((unhide HK7).trans k8 (by simp))
      clear k8
      by_cases hi0 : i < 0
      · have e1 := withB_out (b := b) (i := i) (Or.inl hi0)
        have e2 := outB_out (b := b) (i := i) (Or.inl hi0)
        have e3 := hasB_out (b := b) (i := i) (Or.inl hi0)
        rw [e1, e2]
        clear e1 e2
        go_wp2_with fail
        refine Calls.mono (has_any b i _ hb hi) ?_
        rintro e w9 ⟨rfl, k9⟩
        have HK9 := hide ((unhide HK8).trans k9 (by simp))
        clear k9
        rw [e3]
        go_wp2
        go_ret
        exact ⟨rfl, (unhide HK9).below (Nat.le_refl _) (by simp)⟩
      by_cases hi15 : 15 < i
      · have e1 := withB_out (b := b) (i := i) (Or.inr hi15)
        have e2 := outB_out (b := b) (i := i) (Or.inr hi15)
        have e3 := hasB_out (b := b) (i := i) (Or.inr hi15)
        rw [e1, e2]
        clear e1 e2
        go_wp2_with fail
        refine Calls.mono (has_any b i _ hb hi) ?_
        rintro e w9 ⟨rfl, k9⟩
        have HK9 := hide ((unhide HK8).trans k9 (by simp))
        clear k9
        rw [e3]
        go_wp2
        go_ret
        exact ⟨rfl, (unhide HK9).below (Nat.le_refl _) (by simp)⟩
      obtain ⟨k, rfl⟩ : ∃ k : Nat, i = k := ⟨i.toNat, by omega⟩
      have hk15 : k ≤ 15 := by omega
      have hWl := withB_lt b (k : Int) hb
      have hVl := outB_lt b (k : Int) hb
      have q1 := hide (has_with b k hk15)
      have q2 := hide (has_out b k hk15)
      have q3 := hide (out_with b k hk15)
      have q4 := hide (with_out b k hk15)
      have q5 := hide (with_with b k hk15)
      have q6 := hide (out_out b k hk15)
      have q7 := hide (by have h9 := cnt_with b k hk15 16; rw [if_pos (by omega)] at h9; exact h9 : cnt (withB b (k : Int)) 16 = cnt (outB b (k : Int)) 16 + 1)
      have q8 := hide (cnt_le (outB b (k : Int)) 16)
      have q9 := hide (by
        rw [hasB_in b k hk15]
        cases hx : b.testBit k with
        | true =>
          have h1 := (eq_with b k hk15).2 hx
          have h2 : ¬ b = outB b k := fun h => by have := (eq_out b k hk15).1 h; rw [hx] at this; cases this
          exact ⟨by rw [beq_iff_eq]; omega, by rw [Bool.not_true, beq_eq_false_iff_ne]; omega⟩
        | false =>
          have h1 := (eq_out b k hk15).2 hx
          have h2 : ¬ b = withB b k := fun h => by have := (eq_with b k hk15).1 h; rw [hx] at this; cases this
          exact ⟨by rw [beq_eq_false_iff_ne]; omega, by rw [Bool.not_false, beq_iff_eq]; omega⟩ : (((b : Int) == (withB b (k : Int) : Int)) = hasB b (k : Int)) ∧ (((b : Int) == (outB b (k : Int) : Int)) = !hasB b (k : Int)))
      generalize withB b (k : Int) = A at *
      generalize outB b (k : Int) = V at *
      go_wp2_with fail
      refine Calls.mono (has_any A k _ hWl hi) ?_
      rintro e w9 ⟨rfl, k9⟩
      have HK9 := hide ((unhide HK8).trans k9 (by simp))
      clear k9
      rw [unhide q1]
      go_wp2_with fail
      refine Calls.mono (has_any V k _ hVl hi) ?_
      rintro e w10 ⟨rfl, k10⟩
      have HK10 := hide ((unhide HK9).trans k10 (by simp))
      clear k10
      rw [unhide q2]
      go_wp2_with fail
      refine Calls.mono (without_any A k _ hWl hi) ?_
      rintro e w11 ⟨rfl, k11⟩
      have HK11 := hide ((unhide HK10).trans k11 (by simp))
      clear k11
      rw [unhide q3]
      go_wp2_with fail
      refine Calls.mono (with_any V k _ hVl hi) ?_
      rintro e w12 ⟨rfl, k12⟩
      have HK12 := hide ((unhide HK11).trans k12 (by simp))
      clear k12
      rw [unhide q4]
      go_wp2_with fail
      refine Calls.mono (with_any A k _ hWl hi) ?_
      rintro e w13 ⟨rfl, k13⟩
      have HK13 := hide ((unhide HK12).trans k13 (by simp))
      clear k13
      rw [unhide q5]
      go_wp2_with fail
      refine Calls.mono (without_any V k _ hVl hi) ?_
      rintro e w14 ⟨rfl, k14⟩
      have HK14 := hide ((unhide HK13).trans k14 (by simp))
      clear k14
      rw [unhide q6]
      go_wp2_with fail
      refine Calls.mono (count_any A _ hWl) ?_
      rintro e w15 ⟨rfl, k15⟩
      have HK15 := hide ((unhide HK14).trans k15 (by simp))
      clear k15
      rw [unhide q7]
      go_wp2_with fail
      refine Calls.mono (count_any V _ hVl) ?_
      rintro e w16 ⟨rfl, k16⟩
      have HK16 := hide ((unhide HK15).trans k16 (by simp))
      clear k16
      have hcV := unhide q8
      generalize cnt V 16 = cv at *
      go_wp2_with fail
      refine Calls.mono (has_any b k _ hb hi) ?_
      rintro e w17 ⟨rfl, k17⟩
      have HK17 := hide ((unhide HK16).trans k17 (by simp))
      clear k17
      have q9a := (unhide q9).1
      have q9b := (unhide q9).2
      generalize hasB b (k : Int) = hB at *
      go_wp2
      go_ret
      exact ⟨by simp, (unhide HK17).below (Nat.le_refl _) (by simp)⟩
end Go.Proofs.Ytclgblilgpfllab
