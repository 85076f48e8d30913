import Derived.Test.YtclgblilgpfllaaNInt
namespace Go.Proofs.Ytclgblilgpfllaa
open Go.RowKit Go.BigFrame
set_option linter.unusedVariables false
set_option linter.unusedSimpArgs false

theorem wpList_shl16 {P : Program} {ops : Array Oper} {rest : List Oper} {o : Oper} {a : Act} {w : World} {Q : Exit → Act → World → Prop} (hgd : o.guard = none) (t t2 : TypeId) (y : Operand)
    (ho : o.op = .binOp .shl t (.const (.int .u16 1)) y t2) (k : Nat) (hk : k ≤ 15) (hy : a.eval y = .int .i64 (k : Int)) (hK : wpList P ops Q rest (a.put o.dst (.int .u16 ((al (k : Int) : Nat) : Int))) w) : wpList P ops Q (o :: rest) a w := by
  have e : (Op.shift .shl .u16 1 .i64 (k : Int)).run P w = .ok (.int .u16 ((al (k : Int) : Nat) : Int)) w := by
    rw [shift_shl .u16 .i64 1 (k : Int) (by omega) (by simp [IntKind.bits]; omega), al_in hk]
    have h9 : 2 ^ k ≤ 2 ^ 15 := Nat.pow_le_pow_right (by decide) hk
    rw [Int.toNat_natCast, Int.one_mul]
    have h8 : (2 ^ k : Int) = ((2 ^ k : Nat) : Int) := by simp
    rw [h8]
    obtain ⟨y, hy⟩ : ∃ y, 2 ^ k = y := ⟨_, rfl⟩
    rw [hy] at h9 ⊢
    have h7 : IntKind.u16.wrap (y : Int) = y := by simp [IntKind.wrap, IntKind.signed, IntKind.bits]; omega
    rw [h7]
    rfl
  have h1 : a.eval (.const (.int .u16 1)) = .int .u16 1 := rfl
  refine wpList_plain hgd fun K hK' => ?_
  unfold Oper.wp execOp
  simp only [ho, hy, h1, eqGuard_shl, binOp_shl, Sem.run_bind, Sem.run_pure, Result.andThen_ok, e]
  exact hK' _ _ hK
theorem setB_succ (b i : Nat) : setB b (i + 1) = if b.testBit i then setB b i ++ [i] else setB b i := rfl
theorem wpList_shrN {P : Program} {ops : Array Oper} {rest : List Oper} {o : Oper} {a : Act} {w : World} {Q : Exit → Act → World → Prop} (hgd : o.guard = none) (t t2 : TypeId) (x y : Operand)
    (ho : o.op = .binOp .shr t x y t2) (b i q : Nat) (hi : i < 16) (hx : a.eval x = .int .u16 (b : Int)) (hy : a.eval y = .int .i64 (i : Int)) (hq : (b : Int) / 2 ^ i = (q : Int)) (hK : wpList P ops Q rest (a.put o.dst (.int .u16 (q : Int))) w) : wpList P ops Q (o :: rest) a w := by
  have e : (Op.shift .shr .u16 (b : Int) .i64 (i : Int)).run P w = .ok (.int .u16 (q : Int)) w := by
    rw [shift_shr .u16 .i64 (b : Int) (i : Int) (by omega) (by simp [IntKind.bits]; omega), Int.toNat_natCast, hq]
    rfl
  refine wpList_plain hgd fun K hK' => ?_
  unfold Oper.wp execOp
  simp only [ho, hx, hy, binOp, eqGuard, Sem.run_bind, Bool.not_false, if_true, Sem.run_pure, Result.andThen_ok, e]
  exact hK' _ _ hK

set_option maxRecDepth 100000 in
set_option maxHeartbeats 1000000 in
theorem rset_any (b : Nat) (w : World) (hb : b < 65536) :
    Calls Try.prog 21 #[.int .u16 b] w fun e w' => ∃ v, e = .returned v ∧ RdZ w' v (setB b 16) ∧ Kept [] w w' := by
  go_enter Try.func21, Try.ntmps21
  go_wp2_with fail
  go_loopw [3, 4] (fun t2 t3 wr => ∃ (i : Nat), i ≤ 16 ∧ t3 = .int .i64 i ∧ Hid (OwnZ w wr t2 (setB b i))) (fun _ t _ => 16 - (intOf t).toNat)
  case atStart => exact ⟨0, by omega, rfl, hide (OwnZ.start (Kept.refl _ _))⟩
  case round =>
    obtain ⟨i, hi, rfl, HO⟩ := hrel
    by_cases hlt : i < 16
    · have hlt' : (i : Int) < 16 := by omega
      have hdb : b.testBit i = decide (b / 2 ^ i % 2 = 1) := Nat.testBit_eq_decide_div_mod_eq
      have HS := hide (setB_succ b i : setB b (i + 1) = if b.testBit i then setB b i ++ [i] else setB b i)
      have HC := hide (cnt_le b i)
      obtain ⟨q, hq⟩ : ∃ q, b / 2 ^ i = q := ⟨_, rfl⟩
      rw [hq] at hdb
      have HQ := hide (by rw [← hq, Int.natCast_ediv]; simp : (b : Int) / 2 ^ i = (q : Int))
      by_cases hbit : q % 2 = 1
      · rw [hdb, if_pos (by simpa using hbit)] at HS
        have hq2 : (q : Int) % 2 = 1 := by omega
        have hq3 : (q : Int).tmod 2 = 1 := by rw [Int.tmod_eq_emod_of_nonneg (by omega)]; omega
        clear hdb hq
        have HC1 := hide (by have h9 := unhide HC; unfold cnt at h9; omega : (setB b i).length + 1 ≤ 1000000000000)
        have HN := hide (heap_alloc_new wr (.cells #[.int .i64 (i : Int)] 3))
        have HO1 := hide ((unhide HO).pass ((Kept.refl [] wr).alloc (.cells #[.int .i64 (i : Int)] 3)))
        go_wp2_with (first
          | (refine wpList_shrN rfl _ _ _ _ rfl b i _ hlt rfl rfl (unhide HQ) ?_)
          | (refine wpList_pushZ rfl _ _ rfl rfl w _ _ (setB b i) [i] wr.heap.size 1 (unhide HO1) (unhide HN) rfl (by decide) (unhide HC1) rfl rfl ?_; intro g cap w1 HO2))
        refine ⟨⟨i + 1, by omega, by simp, hide (by rw [unhide HS]; exact unhide HO2)⟩, ?_⟩
        simp [intOf]; omega
      · rw [hdb, if_neg (by simpa using hbit)] at HS
        have hq2 : (q : Int) % 2 = 0 := by omega
        have hq3 : (q : Int).tmod 2 = 0 := by rw [Int.tmod_eq_emod_of_nonneg (by omega)]; omega
        clear hdb hq
        go_wp2_with (refine wpList_shrN rfl _ _ _ _ rfl b i _ hlt rfl rfl (unhide HQ) ?_)
        go_roundw
        case rel => exact ⟨i + 1, by omega, by go_num, hide (by rw [unhide HS]; exact unhide HO)⟩
        case measure => simp [intOf]; omega
    · have hlt' : ¬ (i : Int) < 16 := by omega
      obtain rfl : i = 16 := by omega
      go_wp2
      go_ret
      exact ⟨_, rfl, (unhide HO).rd, (unhide HO).kept⟩

set_option maxRecDepth 100000 in
set_option maxHeartbeats 1000000 in
theorem rhas_any (b : Nat) (z : Int) (w : World) (hb : b < 65536) (hz : -9223372036854775808 ≤ z ∧ z ≤ 9223372036854775807) :
    Calls Try.prog 17 #[.int .u16 b, .int .i64 z] w fun e w' => e = .returned (.bool (hasB b z)) ∧ Kept [] w w' := by
  have HM := hide (fun j => setB_mem b 16 j)
  go_enter Try.func17, Try.ntmps17
  go_wp2_with fail
  refine Calls.mono (rset_any b _ hb) ?_
  rintro e w1 ⟨v1, rfl, r1, k1⟩
  have HR := hide r1
  have HK := hide k1
  obtain ⟨ao, cap, rfl, hc1, hc2, _⟩ := id r1
  clear r1 k1
  generalize setB b 16 = S at *
  go_wp2_with fail
  go_loopw [10] (fun t7 wr => ∃ (i : Nat), i ≤ S.length ∧ t7 = .int .i64 i ∧ Hid (∀ j, j < i → (S.getD j 0 : Int) ≠ z) ∧ Hid (Kept [] w1 wr)) (fun t _ => S.length - (intOf t).toNat)
  case atStart => exact ⟨0, by omega, rfl, hide (by omega), hide (Kept.refl _ _)⟩
  case round =>
    obtain ⟨i, hi, rfl, HA, HK1⟩ := hrel
    by_cases hlt : i < S.length
    · have hlt' : (i : Int) < S.length := by omega
      obtain ⟨a2, c2, e2, _, _, h2⟩ := id (unhide HR)
      cases e2
      obtain ⟨g, off, rfl, hcell⟩ := h2 (by omega)
      have ci := (unhide HK1).cell (hcell i hlt) (by simp)
      clear hcell h2
      have hmem : S.getD i 0 ∈ S := by rw [List.getD_eq_getElem?_getD, List.getElem?_eq_getElem hlt]; exact List.getElem_mem hlt
      obtain ⟨x, hx⟩ : ∃ x, S.getD i 0 = x := ⟨_, rfl⟩
      rw [hx] at ci hmem
      by_cases hxz : (x : Int) = z
      · have HE := hide (by
          have h9 := (unhide HM x).1 hmem
          unfold hasB; rw [← hxz, Int.toNat_natCast, h9.2]; simp; omega : hasB b z = true)
        clear hx hmem
        subst hxz
        go_wp2
        go_ret
        exact ⟨by rw [unhide HE]; rfl, (unhide HK).trans (unhide HK1) (by simp)⟩
      · have HN := hide (fun j (hj : j < i + 1) => by
          rcases Nat.lt_or_ge j i with g | g
          · exact unhide HA j g
          · rw [show j = i by omega, hx]; exact hxz : ∀ j, j < i + 1 → (S.getD j 0 : Int) ≠ z)
        clear hx hmem
        go_wp2
        go_roundw
        case rel => exact ⟨i + 1, by omega, by go_num, HN, HK1⟩
        case measure => simp [intOf]; omega
    · have hlt' : ¬ (i : Int) < S.length := by omega
      have HE := hide (by
        cases hh : hasB b z with
        | false => rfl
        | true =>
          unfold hasB at hh
          simp only [Bool.and_eq_true, decide_eq_true_eq] at hh
          have h9 := (unhide HM z.toNat).2 ⟨by omega, hh.2.2⟩
          obtain ⟨j, hj, he⟩ := List.getElem_of_mem h9
          exact absurd (by rw [List.getD_eq_getElem?_getD, List.getElem?_eq_getElem hj, Option.getD_some, he]; omega) (unhide HA j (by omega)) : hasB b z = false)
      go_wp2
      go_ret
      exact ⟨by rw [unhide HE]; rfl, (unhide HK).trans (unhide HK1) (by simp)⟩

theorem cnt_take : ∀ (l : List Nat) (z : Int) (i : Nat), i < l.length → ((l.take (i + 1)).filter (fun (j : Nat) => decide ((j : Int) < z))).length = ((l.take i).filter (fun (j : Nat) => decide ((j : Int) < z))).length + if (l.getD i 0 : Int) < z then 1 else 0 := by
  intro l z i hi
  rw [List.take_succ_eq_append_getElem hi, List.filter_append, List.length_append, List.getD_eq_getElem?_getD, List.getElem?_eq_getElem hi]
  simp only [Option.getD_some, List.filter_cons, List.filter_nil]
  split <;> simp_all
theorem setB_below (b : Nat) (z : Int) : ∀ k : Nat, ((setB b k).filter (fun (j : Nat) => decide ((j : Int) < z))).length = if z < 0 then 0 else cnt b (min k z.toNat)
  | 0 => by simp [setB, cnt]
  | k + 1 => by
    have ih := setB_below b z k
    unfold setB
    by_cases hz : z < 0
    · rw [if_pos hz] at ih ⊢
      split
      · rw [List.filter_append, List.length_append, ih]; simp; omega
      · exact ih
    · rw [if_neg hz] at ih ⊢
      by_cases hk : (k : Int) < z
      · rw [show min (k + 1) z.toNat = k + 1 by omega, cnt_succ]
        rw [show min k z.toNat = k by omega] at ih
        split
        · rw [List.filter_append, List.length_append, ih]; simp [hk]
        · rw [ih]; simp
      · rw [show min (k + 1) z.toNat = z.toNat by omega]
        rw [show min k z.toNat = z.toNat by omega] at ih
        split
        · rw [List.filter_append, List.length_append, ih]; simp; omega
        · exact ih
theorem rankB_set (b : Nat) (z : Int) : ((setB b 16).filter (fun (j : Nat) => decide ((j : Int) < z))).length = rankB b z := by
  rw [setB_below]
  unfold rankB
  split
  · rfl
  · split
    · rw [show min 16 z.toNat = z.toNat by omega]
    · rw [show min 16 z.toNat = 16 by omega]

set_option maxRecDepth 100000 in
set_option maxHeartbeats 1000000 in
theorem rrank_any (b : Nat) (z : Int) (w : World) (hb : b < 65536) (hz : -9223372036854775808 ≤ z ∧ z ≤ 9223372036854775807) :
    Calls Try.prog 19 #[.int .u16 b, .int .i64 z] w fun e w' => e = .returned (.int .i64 (rankB b z : Int)) ∧ Kept [] w w' := by
  have HM := hide (rankB_set b z)
  have HL := hide (cnt_le b 16)
  unfold cnt at HL
  go_enter Try.func19, Try.ntmps19
  go_wp2_with fail
  refine Calls.mono (rset_any b _ hb) ?_
  rintro e w1 ⟨v1, rfl, r1, k1⟩
  have HR := hide r1
  have HK := hide k1
  obtain ⟨ao, cap, rfl, hc1, hc2, _⟩ := id r1
  clear r1 k1
  generalize setB b 16 = S at *
  go_wp2_with fail
  have HT := hide (cnt_take S z)
  go_loopw [5, 11] (fun t3 t11 wr => ∃ (i c : Nat), i ≤ S.length ∧ t11 = .int .i64 i ∧ t3 = .int .i64 c ∧ c ≤ i ∧ Hid (c = ((S.take i).filter (fun (j : Nat) => decide ((j : Int) < z))).length) ∧ Hid (Kept [] w1 wr)) (fun _ t _ => S.length - (intOf t).toNat)
  case atStart => exact ⟨0, 0, by omega, rfl, rfl, by omega, hide (by simp), hide (Kept.refl _ _)⟩
  case round =>
    obtain ⟨i, c, hi, rfl, rfl, hci, HA, HK1⟩ := hrel
    by_cases hlt : i < S.length
    · have hlt' : (i : Int) < S.length := by omega
      have hl16 := unhide HL
      obtain ⟨a2, c2, e2, _, _, h2⟩ := id (unhide HR)
      cases e2
      obtain ⟨g, off, rfl, hcell⟩ := h2 (by omega)
      have ci := (unhide HK1).cell (hcell i hlt) (by simp)
      have HT1 := hide (unhide HT i hlt)
      clear hcell h2
      obtain ⟨x, hx⟩ : ∃ x, S.getD i 0 = x := ⟨_, rfl⟩
      rw [hx] at ci HT1
      by_cases hxz : (x : Int) < z
      · rw [if_pos hxz] at HT1
        go_wp2
        go_roundw
        case rel => exact ⟨i + 1, c + 1, by omega, by go_num, by go_num, by omega, hide (by rw [unhide HT1, ← unhide HA]), HK1⟩
        case measure => simp [intOf]; omega
      · rw [if_neg hxz] at HT1
        go_wp2
        go_roundw
        case rel => exact ⟨i + 1, c, by omega, by go_num, rfl, by omega, hide (by rw [unhide HT1, ← unhide HA]; rfl), HK1⟩
        case measure => simp [intOf]; omega
    · have hlt' : ¬ (i : Int) < S.length := by omega
      have hie : i = S.length := by omega
      subst hie
      rw [List.take_length] at HA
      go_wp2
      go_ret
      exact ⟨by rw [← unhide HM, ← unhide HA]; rfl, (unhide HK).trans (unhide HK1) (by simp)⟩

set_option maxRecDepth 100000 in
set_option maxHeartbeats 1000000 in
theorem rwith_any (b : Nat) (z : Int) (w : World) (hb : b < 65536) (hz : -9223372036854775808 ≤ z ∧ z ≤ 9223372036854775807) :
    Calls Try.prog 23 #[.int .u16 b, .int .i64 z] w fun e w' => e = .returned (.int .u16 (withB b z : Int)) ∧ Kept [] w w' := by
  have HW := hide (withB_lt b z hb)
  by_cases h1 : z < 0
  · have HE := hide (by unfold withB; rw [if_neg (by omega)] : withB b z = b)
    go_enter Try.func23, Try.ntmps23
    go_wp2
    go_ret
    exact ⟨by rw [unhide HE]; rfl, Kept.refl _ _⟩
  · by_cases h2 : 15 < z
    · have HE := hide (by unfold withB; rw [if_neg (by omega)] : withB b z = b)
      go_enter Try.func23, Try.ntmps23
      go_wp2
      go_ret
      exact ⟨by rw [unhide HE]; rfl, Kept.refl _ _⟩
    · obtain ⟨k, rfl⟩ : ∃ k : Nat, z = k := ⟨z.toNat, by omega⟩
      have HP := hide (al_in (i := k) (by omega))
      have hl := al_lt (k : Int)
      go_enter Try.func23, Try.ntmps23
      go_wp2_with fail
      refine Calls.mono (rhas_any b k _ hb hz) ?_
      rintro e w1 ⟨rfl, k1⟩
      cases hh : hasB b k with
      | true =>
        have HE := hide (by unfold hasB at hh; simp only [Bool.and_eq_true] at hh; unfold withB; rw [if_neg (by rw [hh.2.2]; simp)] : withB b k = b)
        clear hh
        go_wp2
        go_ret
        exact ⟨by rw [unhide HE]; rfl, k1⟩
      | false =>
        have HE := hide (by
          unfold hasB at hh
          have q1 : decide ((0 : Int) ≤ k) = true := by simp
          have q2 : decide ((k : Int) ≤ 15) = true := by simp; omega
          rw [q1, q2] at hh
          unfold withB; rw [if_pos ⟨by omega, by omega, by simpa using hh⟩, Int.toNat_natCast, ← unhide HP] : withB b k = b + al k)
        rw [unhide HE] at HW
        have hsum := unhide HW
        clear hh
        have hk15 : k ≤ 15 := by omega
        obtain ⟨A, hA⟩ : ∃ A, al k = A := ⟨_, rfl⟩
        rw [hA] at hsum HE
        have HA := hide hA
        clear hA hl
        go_wp2_with (refine wpList_shl16 rfl _ _ _ rfl k hk15 rfl ?_; rw [unhide HA])
        go_ret
        exact ⟨by rw [unhide HE]; rfl, k1⟩

set_option maxRecDepth 100000 in
set_option maxHeartbeats 1000000 in
theorem rwithout_any (b : Nat) (z : Int) (w : World) (hb : b < 65536) (hz : -9223372036854775808 ≤ z ∧ z ≤ 9223372036854775807) :
    Calls Try.prog 25 #[.int .u16 b, .int .i64 z] w fun e w' => e = .returned (.int .u16 (outB b z : Int)) ∧ Kept [] w w' := by
  go_enter Try.func25, Try.ntmps25
  go_wp2_with fail
  refine Calls.mono (rhas_any b z _ hb hz) ?_
  rintro e w1 ⟨rfl, k1⟩
  cases hh : hasB b z with
  | false =>
    have HE := hide (by
      unfold outB
      rw [if_neg (fun ⟨h1, h2, h3⟩ => by unfold hasB at hh; rw [decide_eq_true h1, decide_eq_true h2, h3] at hh; cases hh)] : outB b z = b)
    clear hh
    go_wp2
    go_ret
    exact ⟨by rw [unhide HE]; rfl, k1⟩
  | true =>
    have h9 : 0 ≤ z ∧ z ≤ 15 ∧ b.testBit z.toNat = true := by
      unfold hasB at hh; simp only [Bool.and_eq_true, decide_eq_true_eq] at hh; exact hh
    obtain ⟨k, rfl⟩ : ∃ k : Nat, z = k := ⟨z.toNat, by omega⟩
    have hk15 : k ≤ 15 := by omega
    have HP := hide (al_in (i := k) hk15)
    have HE := hide (by unfold outB; rw [if_pos h9, Int.toNat_natCast, ← unhide HP] : outB b k = b - al k)
    have hge : al k ≤ b := by rw [unhide HP]; exact bit_ge (by simpa using h9.2.2)
    clear hh h9
    obtain ⟨A, hA⟩ : ∃ A, al k = A := ⟨_, rfl⟩
    rw [hA] at hge HE
    have HA := hide hA
    clear hA
    go_wp2_with (refine wpList_shl16 rfl _ _ _ rfl k hk15 rfl ?_; rw [unhide HA])
    go_ret
    exact ⟨by rw [unhide HE, Int.ofNat_sub hge]; rfl, k1⟩
end Go.Proofs.Ytclgblilgpfllaa
