import Derived.Test.YtajfaekfhohbmaaDoorTopC
import Derived.Test.YtajfaekfhohbmaaDoorQKeep
import Derived.Deep.MidRow
import Derived.Test.YtajfaekfhohbmaaDoorTopA
namespace Go.Proofs.YtajfaekfhohbmaaDoor
open Go.RowKit Go.BigFrame
set_option linter.unusedVariables false
set_option linter.unusedSimpArgs false

set_option maxRecDepth 100000 in
set_option maxHeartbeats 400000 in
theorem below64_any (k : Nat) (w : World) (h2 : 2 ≤ k) (hk : k < 18446744073709551616) :
    Calls Tryd.prog 70 #[.int .u64 k] w fun e w' => e = .returned (.int .u64 (belT k)) ∧ w' = w := by
  have hs : IntKind.u64.wrap ((k : Int) - 1) = ((k - 1 : Nat) : Int) := by rw [wrM]; omega
  have HB := hide (fun j (h : 2 ^ j ≤ k - 1) (h' : k - 1 < 2 ^ (j + 1)) => (by unfold belT; rw [(Nat.log2_eq_iff (by omega)).2 ⟨h, h'⟩] : belT k = 2 ^ j))
  obtain ⟨k1, hk1⟩ : ∃ k1, k - 1 = k1 := ⟨_, rfl⟩
  rw [hk1] at hs HB
  have h1 : 1 ≤ k1 := by omega
  have h3 : k1 < 18446744073709551616 := by omega
  obtain ⟨B, hBe⟩ : ∃ B, belT k = B := ⟨_, rfl⟩
  rw [hBe] at HB ⊢
  clear hBe hk1
  go_enter Tryd.func70, Tryd.ntmps70
  go_wp2_with fail
  go_loopw [3] (fun t3 wr => ∃ (m : Nat), t3 = .int .u64 (m : Int) ∧ 1 ≤ m ∧ m ≤ k1 ∧ Hid (∃ j, m = 2 ^ j) ∧ wr = w) (fun t _ => k1 - (intOf t).toNat)
  case atStart => exact ⟨1, rfl, by omega, by omega, hide ⟨0, rfl⟩, rfl⟩
  case round =>
    obtain ⟨m, rfl, hm1, hm2, HJ, rfl⟩ := hrel
    by_cases hle : 2 * m ≤ k1
    · have hle' : (m : Int) ≤ (k1 : Int) / 2 := by omega
      have hmul : IntKind.u64.wrap ((m : Int) * 2) = ((2 * m : Nat) : Int) := by rw [wrM]; omega
      have HJ2 := hide (by obtain ⟨j, hj⟩ := unhide HJ; exact ⟨j + 1, by rw [Nat.pow_succ]; omega⟩ : ∃ j, 2 * m = 2 ^ j)
      go_wp2_with (first | simp only [hs] | simp only [hmul])
      refine ⟨⟨2 * m, rfl, by omega, by omega, HJ2, by trivial⟩, ?_⟩
      simp [intOf]
      omega
    · have hle' : ¬ (m : Int) ≤ (k1 : Int) / 2 := by omega
      have HE := hide (by obtain ⟨j, hj⟩ := unhide HJ; rw [hj]; exact unhide HB j (by omega) (by rw [Nat.pow_succ]; omega) : B = m)
      go_wp2_with (simp only [hs])
      go_ret
      exact ⟨by rw [unhide HE]; rfl, rfl⟩

theorem stL_le : ∀ (c i n : Nat), stL c i n ≤ c
  | 0, _, _ => Nat.le_refl _
  | c + 1, i, n => by
    unfold stL
    have := stL_le c (i / 2) (n / 2 + n % 2)
    split
    · omega
    · split <;> omega
theorem stL_one (c i n : Nat) (h : n ≤ 1) : stL c i n = 0 := by
  cases c with
  | zero => rfl
  | succ c => unfold stL; rw [if_pos h]

set_option maxRecDepth 100000 in
set_option maxHeartbeats 1000000 in
theorem steps_any (i n : Nat) (w : World) (hi : i < n) (hn : n < 18446744073709551616) :
    Calls Tryd.prog 45 #[.int .u64 i, .int .u64 n] w fun e w' => e = .returned (.int .i64 (stL 64 i n)) ∧ w' = w := by
  have HTOP := hide (by omega : n ≤ 2 ^ 64)
  obtain ⟨D, hD⟩ : ∃ D, stL 64 i n = D := ⟨_, rfl⟩
  have HD64 := hide (by rw [← hD]; exact stL_le 64 i n : D ≤ 64)
  rw [hD]
  have HD := hide hD
  clear hD
  go_enter Tryd.func45, Tryd.ntmps45
  go_wp2_with fail
  go_loopw [0, 1, 5] (fun t0 t1 t5 wr => ∃ (i' n' s c : Nat), t0 = .int .u64 (i' : Int) ∧ t1 = .int .u64 (n' : Int) ∧ t5 = .int .i64 (s : Int) ∧ i' < n' ∧ n' < 18446744073709551616 ∧ s ≤ 64 ∧ Hid (n' ≤ 2 ^ c) ∧ Hid (s + stL c i' n' = D) ∧ wr = w) (fun _ t _ _ => (intOf t).toNat)
  case atStart => exact ⟨i, n, 0, 64, rfl, rfl, rfl, hi, hn, by omega, HTOP, hide (by have := unhide HD; omega), rfl⟩
  case round =>
    obtain ⟨i', n', s, c, rfl, rfl, rfl, h1, h2, h3, HB, HS, rfl⟩ := hrel
    by_cases hg : 1 < n'
    · have hg' : (1 : Int) < (n' : Int) := by omega
      cases c with
      | zero => exfalso; have := unhide HB; omega
      | succ c =>
        have HB2 := hide (by have := unhide HB; rw [Nat.pow_succ] at this; omega : n' / 2 + n' % 2 ≤ 2 ^ c)
        have HD6 := unhide HD64
        by_cases hodd : i' % 2 = 1
        · have hodd' : (i' : Int) % 2 = 1 := by omega
          have hq : ((i' : Int) % 2 == 1) = true := by simp; omega
          have HS2 := hide (by have h9 := unhide HS; unfold stL at h9; rw [if_neg (by omega), if_pos (Or.inl hodd)] at h9; omega : s + 1 + stL c (i' / 2) (n' / 2 + n' % 2) = D)
          have hs : s + 1 ≤ 64 := by have := unhide HS2; omega
          clear HB HS
          go_wp2_with (first | simp only [hq, Bool.true_or])
          refine ⟨⟨i' / 2, n' / 2 + n' % 2, s + 1, c, by simp, by simp, by simp, by omega, by omega, hs, HB2, HS2, by trivial⟩, ?_⟩
          simp [intOf]
          omega
        · have hodd' : ¬ (i' : Int) % 2 = 1 := by omega
          have hq : ((i' : Int) % 2 == 1) = false := by simp; omega
          by_cases hlt : i' + 1 < n'
          · have hlt' : (i' : Int) + 1 < (n' : Int) := by omega
            have HS2 := hide (by have h9 := unhide HS; unfold stL at h9; rw [if_neg (by omega), if_pos (Or.inr hlt)] at h9; omega : s + 1 + stL c (i' / 2) (n' / 2 + n' % 2) = D)
            have hs : s + 1 ≤ 64 := by have := unhide HS2; omega
            clear HB HS
            go_wp2_with (first | simp only [hq, Bool.false_or])
            refine ⟨⟨i' / 2, n' / 2 + n' % 2, s + 1, c, by simp, by simp, by simp, by omega, by omega, hs, HB2, HS2, by trivial⟩, ?_⟩
            simp [intOf]
            omega
          · have hlt' : ¬ (i' : Int) + 1 < (n' : Int) := by omega
            have HS2 := hide (by have h9 := unhide HS; unfold stL at h9; rw [if_neg (by omega), if_neg (by omega)] at h9; omega : s + stL c (i' / 2) (n' / 2 + n' % 2) = D)
            clear HB HS
            go_wp2_with (first | simp only [hq, Bool.false_or])
            refine ⟨⟨i' / 2, n' / 2 + n' % 2, s, c, by simp, by simp, by simp, by omega, by omega, h3, HB2, HS2, by trivial⟩, ?_⟩
            simp [intOf]
            omega
    · have hg' : ¬ (1 : Int) < (n' : Int) := by omega
      have HE := hide (by have h9 := unhide HS; rw [stL_one _ _ _ (by omega)] at h9; omega : s = D)
      go_wp2_with fail
      go_ret
      exact ⟨by rw [unhide HE]; rfl, rfl⟩
end Go.Proofs.YtajfaekfhohbmaaDoor
namespace Go.Proofs.YtajfaekfhohbmaaDoor
open Go.RowKit Go.BigFrame
set_option linter.unusedVariables false
set_option linter.unusedSimpArgs false

theorem sinL_le : ∀ (c m n : Nat) (wh : Bool), sinL c m n wh ≤ c + 1
  | 0, _, _, wh => by unfold sinL; split <;> omega
  | c + 1, m, n, wh => by
    unfold sinL
    have h1 := sinL_le c m (belT n) wh
    have h2 := sinL_le c (m - belT n) (n - belT n) false
    split
    · split <;> omega
    · split <;> omega
theorem sinL_end (c m : Nat) (wh : Bool) : sinL c m m wh = if wh then 0 else 1 := by
  cases c with
  | zero => rfl
  | succ c => unfold sinL; rw [if_pos rfl]

set_option maxRecDepth 100000 in
set_option maxHeartbeats 1000000 in
theorem since_any (m n : Nat) (w : World) (hm : 1 ≤ m) (hmn : m ≤ n) (hn : n < 18446744073709551616) :
    Calls Tryd.prog 46 #[.int .u64 m, .int .u64 n, .bool true] w fun e w' => e = .returned (.int .i64 (sinL 64 m n true)) ∧ w' = w := by
  have HTOP := hide (by omega : n ≤ 2 ^ 64)
  obtain ⟨D, hD⟩ : ∃ D, sinL 64 m n true = D := ⟨_, rfl⟩
  have HD64 := hide (by rw [← hD]; exact sinL_le 64 m n true : D ≤ 65)
  rw [hD]
  have HD := hide hD
  clear hD
  go_enter Tryd.func46, Tryd.ntmps46
  go_wp2_with fail
  go_loopw [0, 1, 2, 7] (fun t0 t1 t2 t7 wr => ∃ (m' n' s c : Nat) (wh : Bool), t0 = .int .u64 (m' : Int) ∧ t1 = .int .u64 (n' : Int) ∧ t2 = .bool wh ∧ t7 = .int .i64 (s : Int) ∧ 1 ≤ m' ∧ m' ≤ n' ∧ n' < 18446744073709551616 ∧ s ≤ 65 ∧ Hid (n' ≤ 2 ^ c) ∧ Hid (s + sinL c m' n' wh = D) ∧ wr = w) (fun _ t _ _ _ => (intOf t).toNat)
  case atStart => exact ⟨m, n, 0, 64, true, rfl, rfl, rfl, rfl, hm, hmn, hn, by omega, HTOP, hide (by have := unhide HD; omega), rfl⟩
  case round =>
    obtain ⟨m', n', s, c, wh, rfl, rfl, rfl, rfl, h1, h2, h3, h4, HB, HS, rfl⟩ := hrel
    by_cases hg : m' = n'
    · subst hg
      have HE := hide (by have h9 := unhide HS; rw [sinL_end] at h9; exact h9 : s + (if wh then 0 else 1) = D)
      cases wh with
      | true =>
        go_wp2_with fail
        go_ret
        exact ⟨by have := unhide HE; simp at this; rw [this]; rfl, rfl⟩
      | false =>
        go_wp2_with fail
        go_ret
        exact ⟨by have := unhide HE; simp at this; rw [← this]; simp, rfl⟩
    · have hg' : ¬ (m' : Int) = (n' : Int) := by omega
      have hbe := belT_lt (n := n') (by omega)
      cases c with
      | zero => exfalso; have := unhide HB; omega
      | succ c =>
        have hbh := belT_half (n := n') (c := c) (by omega) (unhide HB)
        have HBL := hide (below64_any n' wr (by omega) h3)
        have HST := hide (by have h9 := unhide HS; unfold sinL at h9; rw [if_neg hg] at h9; exact h9 : s + (1 + (if m' ≤ belT n' then sinL c m' (belT n') wh else sinL c (m' - belT n') (n' - belT n') false)) = D)
        obtain ⟨k, hk⟩ : ∃ k, belT n' = k := ⟨_, rfl⟩
        rw [hk] at hbe hbh HBL HST
        have HB1 := hide hbh
        have hs : s + 1 ≤ 65 := by have := unhide HST; have := unhide HD64; omega
        clear hk hbh HS HB
        by_cases hle : m' ≤ k
        · have hle' : (m' : Int) ≤ (k : Int) := by omega
          have HS2 := hide (by have h9 := unhide HST; rw [if_pos hle] at h9; omega : s + 1 + sinL c m' k wh = D)
          clear HST
          go_wp2_with fail
          refine (unhide HBL).mono ?_
          rintro e w1 ⟨rfl, rfl⟩
          go_wp2_with fail
          refine ⟨⟨m', k, s + 1, c, wh, by simp, by simp, by simp, by simp, h1, hle, by omega, hs, hide (unhide HB1).1, HS2, by trivial⟩, ?_⟩
          simp [intOf]
          omega
        · have hle' : ¬ (m' : Int) ≤ (k : Int) := by omega
          have HS2 := hide (by have h9 := unhide HST; rw [if_neg hle] at h9; omega : s + 1 + sinL c (m' - k) (n' - k) false = D)
          have hd1 : IntKind.u64.wrap ((m' : Int) - (k : Int)) = ((m' - k : Nat) : Int) := by rw [wrM]; omega
          have hd2 : IntKind.u64.wrap ((n' : Int) - (k : Int)) = ((n' - k : Nat) : Int) := by rw [wrM]; omega
          obtain ⟨p, hp⟩ : ∃ p, m' - k = p := ⟨_, rfl⟩
          obtain ⟨q, hq⟩ : ∃ q, n' - k = q := ⟨_, rfl⟩
          rw [hp] at hd1 HS2
          rw [hq] at hd2 HS2
          have HPQ := hide (⟨by omega, by omega, by omega, by omega⟩ : 1 ≤ p ∧ p ≤ q ∧ q < n' ∧ q < 18446744073709551616)
          have HQ2 := hide (by have := (unhide HB1).2; omega : q ≤ 2 ^ c)
          clear HST hp hq
          go_wp2_with fail
          refine (unhide HBL).mono ?_
          rintro e w1 ⟨rfl, rfl⟩
          go_wp2_with (first | simp only [hd1] | simp only [hd2])
          refine ⟨⟨p, q, s + 1, c, false, by simp, by simp, by simp, by simp, (unhide HPQ).1, (unhide HPQ).2.1, (unhide HPQ).2.2.2, hs, HQ2, HS2, by trivial⟩, ?_⟩
          have := (unhide HPQ).2.2.1
          simp [intOf]
          omega

theorem smL_len {m n : Nat} (hm : m ≤ n) (hn : n < 18446744073709551616) : (smL m n).length = if m = 0 then 0 else sinL 64 m n true := by
  unfold smL
  by_cases h0 : m = 0
  · rw [if_pos (Or.inl h0), if_pos h0]; rfl
  · rw [if_neg h0]
    by_cases h1 : m = n
    · rw [if_pos (Or.inr h1), h1, sinL_end]; rfl
    · rw [if_neg (by omega), seam_sin m 64 0 n true (by omega) hm (by omega)]; simp
theorem cntA_eq {i m n : Nat} (hi : i < n) (hm : m ≤ n) (hn : n < 18446744073709551616) : cntA i m n = (stL 64 i n : Int) := by
  unfold cntA
  rw [if_neg (by omega), path_all hi (by omega), levs_steps 64 i n hi (by omega)]

set_option maxRecDepth 100000 in
set_option maxHeartbeats 1000000 in
theorem docCounts_any (i m n : Nat) (w : World) (hi : i < 18446744073709551616) (hm : m < 18446744073709551616) (hn : n < 18446744073709551616) :
    Calls Tryd.prog 20 #[.int .u64 i, .int .u64 m, .int .u64 n] w fun e w' => e = .returned (.tuple #[.int .i64 (cntA i m n), .int .i64 (cntB i m n), .int .i64 (cntE i m n)]) ∧ w' = w := by
  by_cases h1 : n ≤ i
  · have h1' : (n : Int) ≤ (i : Int) := by omega
    unfold cntA cntB cntE
    rw [if_pos (Or.inl h1), if_pos (Or.inl h1), if_pos (Or.inl h1)]
    go_enter Tryd.func20, Tryd.ntmps20
    go_wp2_with fail
    all_goals exact ⟨rfl, _, results_tmp3 rfl _ _ _, rfl, rfl⟩
  · have h1' : ¬ (n : Int) ≤ (i : Int) := by omega
    by_cases h2 : n < m
    · have h2' : (n : Int) < (m : Int) := by omega
      unfold cntA cntB cntE
      rw [if_pos (Or.inr h2), if_pos (Or.inr h2), if_pos (Or.inr h2)]
      go_enter Tryd.func20, Tryd.ntmps20
      go_wp2_with fail
      all_goals exact ⟨rfl, _, results_tmp3 rfl _ _ _, rfl, rfl⟩
    · have h2' : ¬ (n : Int) < (m : Int) := by omega
      have HST := hide (steps_any i n w (by omega) hn)
      have HSI := hide (fun h => since_any m n w h (by omega) hn)
      have hA := cntA_eq (i := i) (m := m) (n := n) (by omega) (by omega) hn
      have hB : cntB i m n = ((if m = 0 then 0 else sinL 64 m n true : Nat) : Int) := by
        unfold cntB
        rw [if_neg (by omega), smL_len (by omega) hn]
      have hE : cntE i m n = 0 := by unfold cntE; rw [if_neg (by omega)]
      rw [hA, hE]
      clear hA hE
      generalize stL 64 i n = S at HST ⊢
      by_cases h0 : m = 0
      · subst h0
        have hb0 : cntB i 0 n = 0 := by rw [hB]; rfl
        rw [hb0]
        clear hB hb0
        go_enter Tryd.func20, Tryd.ntmps20
        go_wp2_with fail
        refine (unhide HST).mono ?_
        rintro e w1 ⟨rfl, rfl⟩
        go_wp2_with fail
        exact ⟨rfl, _, results_tmp3 rfl _ _ _, rfl, rfl⟩
      · have h0' : ¬ (m : Int) = 0 := by omega
        rw [if_neg h0] at hB
        rw [hB]
        clear hB
        have HS2 := hide (unhide HSI (by omega))
        generalize sinL 64 m n true = T at HS2 ⊢
        go_enter Tryd.func20, Tryd.ntmps20
        go_wp2_with fail
        refine (unhide HST).mono ?_
        rintro e w1 ⟨rfl, rfl⟩
        go_wp2_with fail
        refine (unhide HS2).mono ?_
        rintro e w2 ⟨rfl, rfl⟩
        go_wp2_with fail
        exact ⟨rfl, _, results_tmp3 rfl _ _ _, rfl, rfl⟩
theorem cntA_le (i m n : Nat) : cntA i m n ≤ 64 := by
  unfold cntA
  have := pathF_len i 64 0 n
  split <;> omega
theorem cntB_le (i m n : Nat) : cntB i m n ≤ 65 := by
  unfold cntB smL
  have := seamF_len m 64 0 n true
  split
  · omega
  · split
    · simp
    · omega
end Go.Proofs.YtajfaekfhohbmaaDoor
/-
  A row in the midst of a block, read within a quiet walk.
-/
namespace Go.Proofs.YtajfaekfhohbmaaDoor
open Go Go.RowKit Go.BigFrame

theorem wpQuiet_mid {P : Program} {ops : Array Oper} {C : World → Prop} {Q : Act → Prop} {a : Act} {o : Oper} {rest : List Oper} (hw : Region.wanted o (yielded ops a.tmps) = true) (ty : TypeId) (x : Operand) (ho : o.op = .load ty x)
    (b off : Nat) (hx : a.eval x = .pointer (some ⟨b, off, none⟩)) (cs : List Value) (d : TypeDesc) (hg : ∀ w, C w → w.rangeAt b off cs)
    (hu : P.underlying ty = some d) (hd : d.isRow = true) (hi : (P.info? ty).map (·.size) = some cs.length)
    (h : wpQuiet P ops C Q rest (a.put o.dst (.agg cs.toArray))) : wpQuiet P ops C Q (o :: rest) a := by
  refine wpQuiet_want hw fun K hK => ⟨.agg cs.toArray, fun w hw => ?_, hK _ h⟩
  unfold Oper.quietAt execOp
  simp only [ho]
  have := run_loadVar_mid (P := P) w b off ty cs d (hg w hw) hu hd hi
  simp only [hx, Instr.loadAt, Instr.sureAddr, Sem.run_bind, Sem.run_pure, Result.andThen_ok, this, Oper.quietUpon, and_self]
end Go.Proofs.YtajfaekfhohbmaaDoor
namespace Go.Proofs.YtajfaekfhohbmaaDoor
open Go.RowKit Go.BigFrame
set_option linter.unusedVariables false
set_option linter.unusedSimpArgs false

theorem RdD.upto {w : World} {ao : Option Addr} {len cap : Nat} {ds : List (List Nat)} (h : RdD w (.slice ao len cap) ds) (k : Nat) (hk : k ≤ len) : RdD w (.slice ao k cap) (ds.take k) := by
  obtain ⟨ao', len', cap', e, h1, h2, h3, h4, h5⟩ := h
  cases e
  refine ⟨ao, k, cap, rfl, by rw [List.length_take]; omega, by omega, h3, fun d hd => h4 d (List.mem_of_mem_take hd), fun hp => ?_⟩
  obtain ⟨b, off, rfl, hc⟩ := h5 (by omega)
  refine ⟨b, off, rfl, fun i hi => ?_⟩
  rw [List.getD_eq_getElem?_getD, List.getElem?_take_of_lt hi, ← List.getD_eq_getElem?_getD]
  exact hc i (by omega)
theorem RdD.dg {w : World} {v : Value} {ds : List (List Nat)} (h : RdD w v ds) {d : List Nat} (hd : d ∈ ds) : Dg d := by
  obtain ⟨ao', len', cap', e, h1, h2, h3, h4, h5⟩ := h
  exact h4 d hd
/-- What stands ahead of the last, and that one. -/
theorem last_cut {ds : List (List Nat)} {x : List Nat} {r : List (List Nat)} (h : ds.reverse = x :: r) : ds = r.reverse ++ [x] ∧ ds.length = r.length + 1 := by
  have h2 := congrArg List.reverse h
  simp only [List.reverse_reverse, List.reverse_cons] at h2
  refine ⟨h2, ?_⟩
  rw [h2]; simp

theorem results_tmp_cell {P : Program} {fn : Func} {p q : Tmp} {ty : TypeId} (h : fn.results = #[.tmp q, .cell p ty]) (tmps : Array Value) (w : World) (g : Nat) (t : TypeId) (cs : Array Value) (fr : Nat × Nat) (d : TypeDesc)
    (hp : tmps.getD p undef = .pointer (some ⟨g, 0, none⟩)) (hg : w.heap[g]? = some (.cells cs t fr))
    (hu : P.underlying ty = some d) (hd : (match d with | .struct _ | .array _ _ => true | _ => false) = true) (hi : (P.info? ty).map (·.size) = some cs.size) (v : Value) (hq : tmps.getD q undef = v) :
    (results fn tmps).run P w = .ok (.tuple #[v, .agg cs]) w := by
  have hp' : tmps[p]?.getD undef = .pointer (some ⟨g, 0, none⟩) := by simpa using hp
  have hq' : tmps[q]?.getD undef = v := by simpa using hq
  simp [results, h, hp', hq', asAddr, run_loadVar_row w g t ty cs fr d hg hu hd hi]
theorem formedE_two {z : Int} {l m : List Nat} (hw : widthB z = true) (hl : formB z l = true) (hm : formB z m = true) : formedE z [l, m] = 0 := by simp [formedE, hw, hl, hm]

set_option maxRecDepth 100000 in
set_option maxHeartbeats 1000000 in
theorem parted_any (v : Value) (ds r : List (List Nat)) (x : List Nat) (w : World) (hv : RdD w v ds) (hr : ds.reverse = x :: r) :
    Calls Tryd.prog 74 #[v] w fun e w' => ∃ u, e = .returned (.tuple #[u, .agg (brow x)]) ∧ RdD w' u r.reverse ∧ Kept [] w w' := by
  obtain ⟨e1, e2⟩ := last_cut hr
  have HV := hide hv
  obtain ⟨ao, len, cap, rfl, h1, h2, h3, h4, h5⟩ := hv
  have hlen : len = r.length + 1 := by omega
  obtain ⟨b, off, rfl, hc⟩ := h5 (by omega)
  have HX := hide (unhide HV |>.dg (show x ∈ ds by rw [e1]; simp))
  have HRG := hide (by have := hc r.length (by omega); rwa [e1, List.getD_eq_getElem?_getD, List.getElem?_append_right (by simp), List.length_reverse, Nat.sub_self] at this : w.rangeAt b (off + r.length * 32) (x.map u8))
  have HU := hide (by have := (unhide HV).upto r.length (by omega); rwa [e1, List.take_append_of_le_length (by simp), List.take_of_length_le (by simp)] at this : RdD w (.slice (some ⟨b, off, none⟩) r.length cap) r.reverse)
  have hxl := (unhide HX).1
  clear hc h4 e1 hr h1 HV
  subst hlen
  go_enter Tryd.func74, Tryd.ntmps74
  go_wp2_with fail
  rw [zb32]
  have HGZ := hide (heap_alloc_new w (.cells (zb 32) 26))
  have HK0 := hide ((Kept.refl [] w).alloc (.cells (zb 32) 26))
  have HR2 := hide (range_kept (unhide HRG) (unhide HK0) (by simp))
  obtain ⟨W, hW⟩ : ∃ W, w.alloc (.cells (zb 32) 26) = W := ⟨_, rfl⟩
  rw [hW] at HGZ HK0 HR2 ⊢
  have HL := hide (by rw [List.length_map, hxl]; exact Tryd.size_dig : (Tryd.prog.info? 26).map (·.size) = some (x.map u8).length)
  have hcI : ((r.length : Int)) ≤ cap := by omega
  refine wp_quiet_tail 8 (by kernel_rfl) (by kernel_rfl) ?_
  simp only [List.take_succ_cons, List.take_zero, List.drop_succ_cons, List.drop_zero]
  repeat (go_big_quiet_step (fail))
  refine wpQuiet_mid rfl 26 _ rfl b (off + r.length * 32) rfl (x.map u8) _ (fun w' hw' => by obtain ⟨n, rfl⟩ := hw'; exact unhide HR2) Tryd.underlying26 rfl (unhide HL) ?_
  simp only [Act.put, List.setIfInBounds_toArray, List.set_cons_succ, List.set_cons_zero]
  repeat (go_big_quiet_step (fail))
  refine wpQuiet_nil ?_
  rintro _ ⟨n1, rfl⟩
  go_wp2_with (first
    | (refine wpList_store_row rfl 26 _ _ rfl w.heap.size (brow x) rfl rfl _ (zb 32) (unhide HGZ) (by rw [brow_size, hxl]; exact Tryd.size_dig) (by rw [zb_size, brow_size, hxl]) (brow_one _) ?_))
  have kk := ((unhide HK0).drewN n1).setRow (L := []) (g := w.heap.size) (Or.inr (Nat.le_refl _)) (brow x)
  refine bodyPost_ret (v := .tuple #[.slice (some ⟨b, off, none⟩) r.length cap, .agg (brow x)]) ?_ rfl ⟨_, rfl, (unhide HU).old kk, kk⟩
  exact results_tmp_cell (P := Tryd.prog) (by rfl) _ ((W.drewN n1).setRow w.heap.size (brow x)) w.heap.size _ (brow x) (0, 0) _ (by rfl) (setRow_heap (W.drewN n1) _ _ _ _ _ (unhide HGZ)) Tryd.underlying26 rfl (by rw [brow_size, hxl]; exact Tryd.size_dig) _ (by rfl)

set_option maxRecDepth 100000 in
set_option maxHeartbeats 1000000 in
theorem ended_any (v : Value) (ds r : List (List Nat)) (x : List Nat) (w : World) (hv : RdD w v ds) (hr : ds.reverse = x :: r) :
    Calls Tryd.prog 86 #[v] w fun e w' => ∃ u, e = .returned (.tuple #[u, .agg (brow x)]) ∧ RdD w' u r.reverse ∧ Kept [] w w' := by
  obtain ⟨e1, e2⟩ := last_cut hr
  have HV := hide hv
  obtain ⟨ao, len, cap, rfl, h1, h2, h3, h4, h5⟩ := hv
  have hlen : len = r.length + 1 := by omega
  obtain ⟨b, off, rfl, hc⟩ := h5 (by omega)
  have HX := hide (unhide HV |>.dg (show x ∈ ds by rw [e1]; simp))
  have HRG := hide (by have := hc r.length (by omega); rwa [e1, List.getD_eq_getElem?_getD, List.getElem?_append_right (by simp), List.length_reverse, Nat.sub_self] at this : w.rangeAt b (off + r.length * 32) (x.map u8))
  have HU := hide (by have := (unhide HV).upto r.length (by omega); rwa [e1, List.take_append_of_le_length (by simp), List.take_of_length_le (by simp)] at this : RdD w (.slice (some ⟨b, off, none⟩) r.length cap) r.reverse)
  have hxl := (unhide HX).1
  clear hc h4 e1 hr h1 HV
  subst hlen
  go_enter Tryd.func86, Tryd.ntmps86
  go_wp2_with fail
  rw [zb32]
  have HGZ := hide (heap_alloc_new w (.cells (zb 32) 26))
  have HK0 := hide ((Kept.refl [] w).alloc (.cells (zb 32) 26))
  have HR2 := hide (range_kept (unhide HRG) (unhide HK0) (by simp))
  obtain ⟨W, hW⟩ : ∃ W, w.alloc (.cells (zb 32) 26) = W := ⟨_, rfl⟩
  rw [hW] at HGZ HK0 HR2 ⊢
  have HL := hide (by rw [List.length_map, hxl]; exact Tryd.size_dig : (Tryd.prog.info? 26).map (·.size) = some (x.map u8).length)
  have hcI : ((r.length : Int)) ≤ cap := by omega
  refine wp_quiet_tail 8 (by kernel_rfl) (by kernel_rfl) ?_
  simp only [List.take_succ_cons, List.take_zero, List.drop_succ_cons, List.drop_zero]
  repeat (go_big_quiet_step (fail))
  refine wpQuiet_mid rfl 26 _ rfl b (off + r.length * 32) rfl (x.map u8) _ (fun w' hw' => by obtain ⟨n, rfl⟩ := hw'; exact unhide HR2) Tryd.underlying26 rfl (unhide HL) ?_
  simp only [Act.put, List.setIfInBounds_toArray, List.set_cons_succ, List.set_cons_zero]
  repeat (go_big_quiet_step (fail))
  refine wpQuiet_nil ?_
  rintro _ ⟨n1, rfl⟩
  go_wp2_with (first
    | (refine wpList_store_row rfl 26 _ _ rfl w.heap.size (brow x) rfl rfl _ (zb 32) (unhide HGZ) (by rw [brow_size, hxl]; exact Tryd.size_dig) (by rw [zb_size, brow_size, hxl]) (brow_one _) ?_))
  have kk := ((unhide HK0).drewN n1).setRow (L := []) (g := w.heap.size) (Or.inr (Nat.le_refl _)) (brow x)
  refine bodyPost_ret (v := .tuple #[.slice (some ⟨b, off, none⟩) r.length cap, .agg (brow x)]) ?_ rfl ⟨_, rfl, (unhide HU).old kk, kk⟩
  exact results_tmp_cell (P := Tryd.prog) (by rfl) _ ((W.drewN n1).setRow w.heap.size (brow x)) w.heap.size _ (brow x) (0, 0) _ (by rfl) (setRow_heap (W.drewN n1) _ _ _ _ _ (unhide HGZ)) Tryd.underlying26 rfl (by rw [brow_size, hxl]; exact Tryd.size_dig) _ (by rfl)

set_option maxRecDepth 100000 in
set_option maxHeartbeats 1000000 in
theorem over_bad (f : Nat) (z : Int) (l m : List Nat) (w : World) (hf : f ≠ 0) :
    Calls Tryd.prog 76 #[.int .i64 f, .int .i64 z, .agg (brow l), .agg (brow m)] w fun e w' => e = .returned (.tuple #[.agg (brow zD), .int .i64 f]) ∧ Kept [] w w' := by
  have hb : ((f : Int) != 0) = true := by simp; omega
  have HF := hide hf
  clear hf
  go_enter Tryd.func76, Tryd.ntmps76
  have HGZ := hide (alloc3_at w (.cells (brow l) 26) (.cells (brow m) 26) (.cells (zb 32) 26))
  have HK0 := hide ((((Kept.refl [] w).alloc (.cells (brow l) 26)).alloc (.cells (brow m) 26)).alloc (.cells (zb 32) 26))
  go_wp2_with (rw [zb32]; refine wpList_store_row rfl 26 _ _ rfl (w.heap.size + 1 + 1) (zb 32) rfl rfl _ (zb 32) (unhide HGZ) (by rw [zb_size]; exact Tryd.size_dig) rfl (brow_one _) ?_)
  refine bodyPost_ret (v := .tuple #[.agg (zb 32), .int .i64 f]) ?_ rfl ⟨rfl, (unhide HK0).setRow (Or.inr (by omega)) _⟩
  exact results_cell_tmp rfl _ _ (w.heap.size + 1 + 1) _ (zb 32) (0, 0) _ rfl (setRow_heap _ _ _ _ _ _ (unhide HGZ)) Tryd.underlying26 rfl (by rw [zb_size]; exact Tryd.size_dig) _ rfl

set_option maxRecDepth 100000 in
set_option maxHeartbeats 1000000 in
theorem over_ok (z : Int) (l m : List Nat) (w : World) (hz : -9223372036854775808 ≤ z ∧ z ≤ 9223372036854775807) (hw : widthB z = true) (hl : Dg l) (hm : Dg m) (hlf : formB z l = true) (hmf : formB z m = true) (hT : Tabs w) :
    Calls Tryd.prog 76 #[.int .i64 0, .int .i64 z, .agg (brow l), .agg (brow m)] w fun e w' => e = .returned (.tuple #[.agg (brow (nodS z l m)), .int .i64 0]) ∧ Kept [] w w' := by
  have HE := hide (by rw [formedE_two hw hlf hmf]; unfold nodS sunD; rw [if_pos rfl] : sunD (formedE z [l, m]) z (nodeB z l m) = nodS z l m)
  have HE2 := hide (by rw [formedE_two hw hlf hmf]; simp [sunE, sumE, hw] : sunE (formedE z [l, m]) z = 0)
  obtain ⟨D, hD⟩ : ∃ D, nodS z l m = D := ⟨_, rfl⟩
  have hcl : D.length = 32 := by rw [← hD]; exact (nodS_dg z l m).1
  rw [hD] at HE ⊢
  clear hD
  have HL := hide hl
  have HM := hide hm
  have HT := hide hT
  clear hl hm hT hlf hmf hw
  go_enter Tryd.func76, Tryd.ntmps76
  have HK0 := hide ((((Kept.refl [] w).alloc (.cells (brow l) 26)).alloc (.cells (brow m) 26)).alloc (.cells (zb 32) 26))
  have HGZ := hide (alloc3_at w (.cells (brow l) 26) (.cells (brow m) 26) (.cells (zb 32) 26))
  have HGM := hide (((Kept.refl [] ((w.alloc (.cells (brow l) 26)).alloc (.cells (brow m) 26))).alloc (.cells (zb 32) 26)).heap (alloc_at w (.cells (brow l) 26) (.cells (brow m) 26)) (by simp))
  have HGL := hide ((((Kept.refl [] (w.alloc (.cells (brow l) 26))).alloc (.cells (brow m) 26)).alloc (.cells (zb 32) 26)).heap (heap_alloc_new w (.cells (brow l) 26)) (by simp))
  have HSL := hide (by rw [List.length_map, (unhide HL).1]; exact Tryd.size_dig : (Tryd.prog.info? 26).map (·.size) = some (l.map u8).length)
  have HSM := hide (by rw [List.length_map, (unhide HM).1]; exact Tryd.size_dig : (Tryd.prog.info? 26).map (·.size) = some (m.map u8).length)
  go_wp2_with (first
    | (refine wpList_load_mid rfl 26 _ rfl w.heap.size 0 rfl (l.map u8) _ (range_row (unhide HGL)) Tryd.underlying26 rfl (unhide HSL) ?_)
    | (refine wpList_load_mid rfl 26 _ rfl (w.heap.size + 1) 0 rfl (m.map u8) _ (range_row (unhide HGM)) Tryd.underlying26 rfl (unhide HSM) ?_))
  refine Calls.mono (node_all z l m _ hz (unhide HL).1 (unhide HM).1 (unhide HL).2 (unhide HM).2 ((unhide HT).k (unhide HK0))) ?_
  rintro e w1 ⟨rfl, k1⟩
  rw [unhide HE, unhide HE2]
  have HZ2 := hide (k1.heap (unhide HGZ) (by simp))
  have HK2 := hide ((unhide HK0).trans k1 (by simp))
  clear k1 HGL HGM
  go_wp2_with (refine wpList_store_row rfl 26 _ _ rfl (w.heap.size + 1 + 1) (brow D) rfl rfl _ (zb 32) (unhide HZ2) (by rw [brow_size, hcl]; exact Tryd.size_dig) (by rw [zb_size, brow_size, hcl]) (brow_one _) ?_)
  refine bodyPost_ret (v := .tuple #[.agg (brow D), .int .i64 0]) ?_ rfl ⟨rfl, (unhide HK2).setRow (Or.inr (by omega)) _⟩
  exact results_cell_tmp rfl _ _ (w.heap.size + 1 + 1) _ (brow D) (0, 0) _ rfl (setRow_heap _ _ _ _ _ _ (unhide HZ2)) Tryd.underlying26 rfl (by rw [brow_size, hcl]; exact Tryd.size_dig) _ rfl

set_option maxRecDepth 100000 in
set_option maxHeartbeats 1000000 in
theorem refNode_any (k : Nat) (l m : List Nat) (w : World) (hk : 1 ≤ k ∧ k ≤ 32) (hl : Dg l) (hm : Dg m) :
    Calls Tryd.prog 34 #[.int .i64 k, .agg (brow l), .agg (brow m)] w fun e w' => e = .returned (.agg (brow (nodS k l m))) ∧ Kept [] w w' := by
  have HE := hide (by unfold nodS sumD; rw [if_pos (by simp [widthB]; omega), Int.toNat_natCast] : nodS (k : Int) l m = cutL k (hash (nodeB k l m)))
  obtain ⟨D, hD⟩ : ∃ D, nodS (k : Int) l m = D := ⟨_, rfl⟩
  have hcl : D.length = 32 := by rw [← hD]; exact (nodS_dg _ l m).1
  rw [hD] at HE ⊢
  clear hD
  have HL := hide hl
  have HM := hide hm
  clear hl hm
  go_enter Tryd.func34, Tryd.ntmps34
  have HK0 := hide ((((Kept.refl [] w).alloc (.cells (brow l) 26)).alloc (.cells (brow m) 26)).alloc (.cells (zb 32) 26))
  have HGZ := hide (alloc3_at w (.cells (brow l) 26) (.cells (brow m) 26) (.cells (zb 32) 26))
  have HGM := hide (((Kept.refl [] ((w.alloc (.cells (brow l) 26)).alloc (.cells (brow m) 26))).alloc (.cells (zb 32) 26)).heap (alloc_at w (.cells (brow l) 26) (.cells (brow m) 26)) (by simp))
  have HGL := hide ((((Kept.refl [] (w.alloc (.cells (brow l) 26))).alloc (.cells (brow m) 26)).alloc (.cells (zb 32) 26)).heap (heap_alloc_new w (.cells (brow l) 26)) (by simp))
  have HSL := hide (by rw [List.length_map, (unhide HL).1]; exact Tryd.size_dig : (Tryd.prog.info? 26).map (·.size) = some (l.map u8).length)
  have HSM := hide (by rw [List.length_map, (unhide HM).1]; exact Tryd.size_dig : (Tryd.prog.info? 26).map (·.size) = some (m.map u8).length)
  go_wp2_with (first
    | (refine wpList_load_mid rfl 26 _ rfl w.heap.size 0 rfl (l.map u8) _ (range_row (unhide HGL)) Tryd.underlying26 rfl (unhide HSL) ?_)
    | (refine wpList_load_mid rfl 26 _ rfl (w.heap.size + 1) 0 rfl (m.map u8) _ (range_row (unhide HGM)) Tryd.underlying26 rfl (unhide HSM) ?_))
  rw [zb32]
  refine Calls.mono (refNodeInput_any k l m _ hk (unhide HL).1 (unhide HM).1 (unhide HL).2 (unhide HM).2) ?_
  rintro e w1 ⟨v1, rfl, r1, k1⟩
  have HR1 := hide r1
  obtain ⟨a1, m1, c1, rfl, _⟩ := id r1
  have HZ1 := hide (k1.heap (unhide HGZ) (by simp))
  have HK1 := hide ((unhide HK0).trans k1 (by simp))
  clear k1 r1 HGL HGM
  go_wp2_with fail
  refine Calls.mono (refCut_any k _ (nodeB k l m) _ (unhide HR1) hk.2) ?_
  rintro e w2 ⟨rfl, k2⟩
  rw [← unhide HE]
  have HZ2 := hide (k2.heap (unhide HZ1) (by simp))
  have HK2 := hide ((unhide HK1).trans k2 (by simp))
  clear k2
  go_wp2_with (refine wpList_store_row rfl 26 _ _ rfl (w.heap.size + 1 + 1) (brow D) rfl rfl _ (zb 32) (unhide HZ2) (by rw [brow_size, hcl]; exact Tryd.size_dig) (by rw [zb_size, brow_size, hcl]) (brow_one _) ?_)
  refine bodyPost_ret (v := .agg (brow D)) ?_ rfl ⟨rfl, (unhide HK2).setRow (Or.inr (by omega)) _⟩
  exact results_cell_row rfl _ _ (w.heap.size + 1 + 1) _ (brow D) (0, 0) _ rfl (setRow_heap _ _ _ _ _ _ (unhide HZ2)) Tryd.underlying26 rfl (by rw [brow_size, hcl]; exact Tryd.size_dig)

theorem spl_of {n k : Nat} (h2 : 2 ≤ n) (j : Nat) (hk : k = 2 ^ j) (hlt : k < n) (hge : n ≤ 2 * k) : spl n = k := by
  subst hk
  unfold spl
  have : (n - 1).log2 = j := by
    have a1 : 2 ^ j ≤ n - 1 := by omega
    have a2 : n - 1 < 2 ^ (j + 1) := by rw [Nat.pow_succ]; omega
    exact (Nat.log2_eq_iff (by omega)).2 ⟨a1, a2⟩
  rw [this]

set_option maxRecDepth 100000 in
set_option maxHeartbeats 1000000 in
theorem refSplit_any (n : Nat) (w : World) (h2 : 2 ≤ n) (hn : n < 18446744073709551616) :
    Calls Tryd.prog 87 #[.int .u64 n] w fun e w' => e = .returned (.int .u64 (spl n)) ∧ Kept [] w w' := by
  obtain ⟨S, hS⟩ : ∃ S, spl n = S := ⟨_, rfl⟩
  rw [hS]
  have HS := hide hS
  clear hS
  go_enter Tryd.func87, Tryd.ntmps87
  go_wp2_with fail
  go_loopw [3] (fun t3 wr => ∃ (k : Nat), t3 = .int .u64 k ∧ Hid (∃ j, k = 2 ^ j) ∧ 1 ≤ k ∧ k < n ∧ Hid (Kept [] w wr)) (fun t _ => n - (intOf t).toNat)
  case atStart => exact ⟨1, rfl, hide ⟨0, rfl⟩, by omega, by omega, hide (Kept.refl _ _)⟩
  case round =>
    obtain ⟨k, rfl, HJ, hk1, hk2, HK⟩ := hrel
    have hn1 : (1 : Int) ≤ n := by omega
    by_cases hlt : k ≤ (n - 1) / 2
    · have hlt' : (k : Int) ≤ ((n : Int) - 1) / 2 := by omega
      have hq : (k : Int) * 2 ≤ 18446744073709551615 := by omega
      go_wp2
      refine ⟨⟨k * 2, by go_num, hide (by obtain ⟨j, rfl⟩ := unhide HJ; exact ⟨j + 1, by rw [Nat.pow_succ]⟩), by omega, by omega, HK⟩, ?_⟩
      simp [intOf]; omega
    · have hlt' : ¬ (k : Int) ≤ ((n : Int) - 1) / 2 := by omega
      have HE := hide (by obtain ⟨j, hj⟩ := unhide HJ; exact spl_of h2 j hj hk2 (by omega) : spl n = k)
      go_wp2
      go_ret
      exact ⟨by rw [← unhide HS, unhide HE]; rfl, unhide HK⟩
end Go.Proofs.YtajfaekfhohbmaaDoor
namespace Go.Proofs.YtajfaekfhohbmaaDoor
open Go.RowKit Go.BigFrame
set_option linter.unusedVariables false
set_option linter.unusedSimpArgs false

def opD (o : Option (List Nat)) : List Nat := o.getD zD
def opE (o : Option (List Nat)) : Nat := if o.isSome then 0 else 10
theorem RdD.nil_len {w : World} {ao : Option Addr} {len cap : Nat} {ds : List (List Nat)} (h : RdD w (.slice ao len cap) ds) : ds.length = len := by
  obtain ⟨_, _, _, e, h1, _⟩ := h
  cases e; exact h1

theorem opD_dg {o : Option (List Nat)} (h : ∀ d, o = some d → Dg d) : Dg (opD o) := by
  cases o with
  | none => exact zD_dg
  | some d => exact h d rfl
theorem over_l (z : Int) (O : Option (List Nat)) (x : List Nat) (w : World) (hz : -9223372036854775808 ≤ z ∧ z ≤ 9223372036854775807) (hw : widthB z = true) (hO : ∀ d, O = some d → Dg d ∧ formB z d = true) (hx : Dg x) (hxf : formB z x = true) (hT : Tabs w) :
    Calls Tryd.prog 76 #[.int .i64 (opE O), .int .i64 z, .agg (brow (opD O)), .agg (brow x)] w fun e w' => e = .returned (.tuple #[.agg (brow (opD (O.map (fun y => nodS z y x)))), .int .i64 (opE (O.map (fun y => nodS z y x)))]) ∧ Kept [] w w' := by
  cases O with
  | none => exact over_bad 10 z _ _ w (by decide)
  | some d => exact over_ok z d x w hz hw (hO d rfl).1 hx (hO d rfl).2 hxf hT
theorem over_r (z : Int) (O : Option (List Nat)) (x : List Nat) (w : World) (hz : -9223372036854775808 ≤ z ∧ z ≤ 9223372036854775807) (hw : widthB z = true) (hO : ∀ d, O = some d → Dg d ∧ formB z d = true) (hx : Dg x) (hxf : formB z x = true) (hT : Tabs w) :
    Calls Tryd.prog 76 #[.int .i64 (opE O), .int .i64 z, .agg (brow x), .agg (brow (opD O))] w fun e w' => e = .returned (.tuple #[.agg (brow (opD (O.map (fun y => nodS z x y)))), .int .i64 (opE (O.map (fun y => nodS z x y)))]) ∧ Kept [] w w' := by
  cases O with
  | none => exact over_bad 10 z _ _ w (by decide)
  | some d => exact over_ok z x d w hz hw hx (hO d rfl).1 hxf (hO d rfl).2 hT

set_option maxRecDepth 100000 in
set_option maxHeartbeats 2000000 in
theorem climb_any (z : Int) (leaf : List Nat) (hz : -9223372036854775808 ≤ z ∧ z ≤ 9223372036854775807) (hw : widthB z = true) (hl : Dg leaf) (hf : formB z leaf = true) : ∀ (rp : List (List Nat)) (i n : Nat) (pv : Value) (w : World), i < n → n < 18446744073709551616 → RdD w pv rp.reverse → (∀ x ∈ rp, formB z x = true) → Tabs w →
    Calls Tryd.prog 50 #[.int .i64 z, .agg (brow leaf), .int .u64 i, .int .u64 n, pv] w fun e w' => e = .returned (.tuple #[.agg (brow (opD (clD z leaf rp i n))), .int .i64 (opE (clD z leaf rp i n))]) ∧ Kept [] w w' := by
  intro rp
  induction rp with
  | nil =>
    intro i n pv w hi hn hp hpf hT
    obtain ⟨ao, len, cap, rfl, h1, h2, h3, h4, h5⟩ := hp
    have hlen : len = 0 := by simpa using h1.symm
    subst hlen
    clear h1 h2 h3 h4 h5 hpf hT
    have hll := hl.1
    have HL := hide hl
    go_enter Tryd.func50, Tryd.ntmps50
    have HGL := hide (((Kept.refl [] (w.alloc (.cells (brow leaf) 26))).alloc (.cells (zb 32) 26)).heap (heap_alloc_new w (.cells (brow leaf) 26)) (by simp))
    have HGZ := hide (alloc_at w (.cells (brow leaf) 26) (.cells (zb 32) 26))
    have HK0 := hide (((Kept.refl [] w).alloc (.cells (brow leaf) 26)).alloc (.cells (zb 32) 26))
    by_cases h1 : n = 1
    · have h1' : ((n : Int) == 1) = true := by simp; omega
      have HC := hide (by unfold clD; rw [if_pos h1]; exact ⟨rfl, rfl⟩ : opD (clD z leaf [] i n) = leaf ∧ opE (clD z leaf [] i n) = 0)
      go_wp2_with (first
        | (refine wpList_load_mid rfl 26 _ rfl w.heap.size 0 rfl (leaf.map u8) _ (range_row (unhide HGL)) Tryd.underlying26 rfl (by rw [List.length_map, hll]; exact Tryd.size_dig) ?_)
        | (rw [zb32]; refine wpList_store_row rfl 26 _ _ rfl (w.heap.size + 1) (brow leaf) rfl rfl _ (zb 32) (unhide HGZ) (by rw [brow_size, hll]; exact Tryd.size_dig) (by rw [zb_size, brow_size, hll]) (brow_one _) ?_))
      rw [(unhide HC).1, (unhide HC).2]
      refine bodyPost_ret (v := .tuple #[.agg (brow leaf), .int .i64 0]) ?_ rfl ⟨rfl, (unhide HK0).setRow (Or.inr (by omega)) _⟩
      exact results_cell_tmp rfl _ _ (w.heap.size + 1) _ (brow leaf) (0, 0) _ rfl (setRow_heap _ _ _ _ _ _ (unhide HGZ)) Tryd.underlying26 rfl (by rw [brow_size, hll]; exact Tryd.size_dig) _ rfl
    · have h1' : ((n : Int) == 1) = false := by simp; omega
      have HC := hide (by unfold clD; rw [if_neg h1]; exact ⟨rfl, rfl⟩ : opD (clD z leaf [] i n) = zD ∧ opE (clD z leaf [] i n) = 10)
      go_wp2_with (rw [zb32]; refine wpList_store_row rfl 26 _ _ rfl (w.heap.size + 1) (zb 32) rfl rfl _ (zb 32) (unhide HGZ) (by rw [zb_size]; exact Tryd.size_dig) rfl (brow_one _) ?_)
      rw [(unhide HC).1, (unhide HC).2]
      refine bodyPost_ret (v := .tuple #[.agg (zb 32), .int .i64 10]) ?_ rfl ⟨rfl, (unhide HK0).setRow (Or.inr (by omega)) _⟩
      exact results_cell_tmp rfl _ _ (w.heap.size + 1) _ (zb 32) (0, 0) _ rfl (setRow_heap _ _ _ _ _ _ (unhide HGZ)) Tryd.underlying26 rfl (by rw [zb_size]; exact Tryd.size_dig) _ rfl
  | cons x r ih =>
    intro i n pv w hi hn hp hpf hT
    have HP := hide hp
    obtain ⟨ao, len, cap, rfl, h1, h2, h3, h4, h5⟩ := hp
    have hlen : len = r.length + 1 := by rw [← h1]; simp
    subst hlen
    clear h1 h4 h5
    have HT := hide hT
    have HPF := hide hpf
    have hll := hl.1
    have HX := hide ((unhide HP).dg (show x ∈ (x :: r).reverse by simp))
    have hxl := (unhide HX).1
    clear hT hpf
    have hfl := (opD_dg (fun d hd => (clD_ok hw hl hf (x :: r) i n d hd).1)).1
    obtain ⟨F, hF⟩ : ∃ F, clD z leaf (x :: r) i n = F := ⟨_, rfl⟩
    have HFF := hide hF
    rw [hF] at hfl ⊢
    clear hF
    go_enter Tryd.func50, Tryd.ntmps50
    have HGL := hide (((Kept.refl [] (w.alloc (.cells (brow leaf) 26))).alloc (.cells (zb 32) 26)).heap (heap_alloc_new w (.cells (brow leaf) 26)) (by simp))
    have HGZ := hide (alloc_at w (.cells (brow leaf) 26) (.cells (zb 32) 26))
    have HK0 := hide (((Kept.refl [] w).alloc (.cells (brow leaf) 26)).alloc (.cells (zb 32) 26))
    by_cases h1 : n = 1
    · have h1' : ((n : Int) == 1) = true := by simp; omega
      have hne : (((r.length : Int) + 1) != 0) = true := by simp; omega
      have HC := hide (by rw [← unhide HFF]; unfold clD; rw [if_pos h1]; exact ⟨rfl, rfl⟩ : opD F = zD ∧ opE F = 10)
      go_wp2_with (rw [zb32]; refine wpList_store_row rfl 26 _ _ rfl (w.heap.size + 1) (zb 32) rfl rfl _ (zb 32) (unhide HGZ) (by rw [zb_size]; exact Tryd.size_dig) rfl (brow_one _) ?_)
      rw [(unhide HC).1, (unhide HC).2]
      refine bodyPost_ret (v := .tuple #[.agg (zb 32), .int .i64 10]) ?_ rfl ⟨rfl, (unhide HK0).setRow (Or.inr (by omega)) _⟩
      exact results_cell_tmp rfl _ _ (w.heap.size + 1) _ (zb 32) (0, 0) _ rfl (setRow_heap _ _ _ _ _ _ (unhide HGZ)) Tryd.underlying26 rfl (by rw [zb_size]; exact Tryd.size_dig) _ rfl
    · have h1' : ((n : Int) == 1) = false := by simp; omega
      have hne : (((r.length : Int) + 1) == 0) = false := by simp; omega
      go_wp2_with fail
      refine Calls.mono (parted_any _ (x :: r).reverse r x _ ((unhide HP).old (unhide HK0)) (by simp)) ?_
      rintro e w1 ⟨u1, rfl, d1, k1⟩
      have HD1 := hide d1
      have HG1 := hide (k1.heap (unhide HGL) (by simp))
      have HZ1 := hide (k1.heap (unhide HGZ) (by simp))
      have HK1 := hide ((unhide HK0).trans k1 (by simp))
      obtain ⟨a1, n1, c1, rfl, _⟩ := id d1
      clear d1 k1 HGL HGZ
      have HXW := hide (setRow_heap (w1.alloc (.cells (zb 32) 26)) w1.heap.size (zb 32) (brow x) 26 (0, 0) (heap_alloc_new _ _))
      have k2 := ((Kept.refl [] w1).alloc (.cells (zb 32) 26)).setRow (g := w1.heap.size) (Or.inr (Nat.le_refl _)) (brow x)
      have HSX := hide (by rw [brow_size, hxl]; exact Tryd.size_dig : (Tryd.prog.info? 26).map (·.size) = some (brow x).size)
      have HSXL := hide (by rw [List.length_map, hxl]; exact Tryd.size_dig : (Tryd.prog.info? 26).map (·.size) = some (x.map u8).length)
      have HSL := hide (by rw [List.length_map, hll]; exact Tryd.size_dig : (Tryd.prog.info? 26).map (·.size) = some (leaf.map u8).length)
      have HD2 := hide ((unhide HD1).old k2)
      have HG2 := hide (k2.heap (unhide HG1) (by simp))
      have HZ2 := hide (k2.heap (unhide HZ1) (by simp))
      have HK2 := hide ((unhide HK1).trans k2 (by simp))
      clear k2 HD1 HG1 HZ1
      go_wp2_with (rw [zb32]; refine wpList_store_row rfl 26 _ _ rfl w1.heap.size (brow x) rfl rfl _ (zb 32) (heap_alloc_new _ _) (unhide HSX) (by rw [zb_size, brow_size, hxl]) (brow_one _) ?_)
      refine Calls.mono (split_any n _ (by omega) hn) ?_
      rintro e w3 ⟨rfl, k3⟩
      have HX3 := hide (k3.heap (unhide HXW) (by simp))
      have HD3 := hide ((unhide HD2).old k3)
      have HG3 := hide (k3.heap (unhide HG2) (by simp))
      have HZ3 := hide (k3.heap (unhide HZ2) (by simp))
      have HK3 := hide ((unhide HK2).trans k3 (by simp))
      clear k3 HXW HD2 HG2 HZ2
      have hk1 := spl_pos n
      have hk2 := spl_lt (n := n) (by omega)
      have HK12 := hide (unhide HK1).size
      have HXF := hide (unhide HPF x (by simp))
      have HRF := hide (fun y hy => unhide HPF y (by simp [hy]) : ∀ y ∈ r, formB z y = true)
      by_cases hik : i < spl n
      · have hik' : (i : Int) < (spl n : Nat) := by omega
        have HC := hide (by rw [← unhide HFF]; conv => lhs; unfold clD; rw [if_neg h1, if_pos hik] : F = (clD z leaf r i (spl n)).map (fun y => nodS z y x))
        have IH := fun (w' : World) (h' : RdD w' (.slice a1 n1 c1) r.reverse) (t' : Tabs w') => ih i (spl n) (.slice a1 n1 c1) w' hik (by omega) h' (unhide HRF) t'
        have HOK := hide (clD_ok hw hl hf r i (spl n))
        generalize clD z leaf r i (spl n) = O at HC IH HOK
        go_wp2_with (refine wpList_load_mid rfl 26 _ rfl w.heap.size 0 rfl (leaf.map u8) _ (range_row (unhide HG3)) Tryd.underlying26 rfl (unhide HSL) ?_)
        refine Calls.mono (IH _ (unhide HD3) ((unhide HT).k (unhide HK3))) ?_
        rintro e w4 ⟨rfl, k4⟩
        have HX4 := hide (k4.heap (unhide HX3) (by simp))
        have HZ4 := hide (k4.heap (unhide HZ3) (by simp))
        have HK4 := hide ((unhide HK3).trans k4 (by simp))
        clear k4 HX3 HD3 HG3 HZ3 IH
        have hol := (opD_dg (fun d hd => (unhide HOK d hd).1)).1
        have HSO := hide (by rw [brow_size, hol]; exact Tryd.size_dig : (Tryd.prog.info? 26).map (·.size) = some (brow (opD O)).size)
        have HSOL := hide (by rw [List.length_map, hol]; exact Tryd.size_dig : (Tryd.prog.info? 26).map (·.size) = some ((opD O).map u8).length)
        have HNW := hide (setRow_heap (w4.alloc (.cells (zb 32) 26)) w4.heap.size (zb 32) (brow (opD O)) 26 (0, 0) (heap_alloc_new _ _))
        have k5 := ((Kept.refl [] w4).alloc (.cells (zb 32) 26)).setRow (g := w4.heap.size) (Or.inr (Nat.le_refl _)) (brow (opD O))
        have HX5 := hide (k5.heap (unhide HX4) (by simp))
        have HZ5 := hide (k5.heap (unhide HZ4) (by simp))
        have HK5 := hide ((unhide HK4).trans k5 (by simp))
        clear k5 HX4 HZ4
        go_wp2_with (first
          | (rw [zb32]; refine wpList_store_row rfl 26 _ _ rfl w4.heap.size (brow (opD O)) rfl rfl _ (zb 32) (heap_alloc_new _ _) (unhide HSO) (by rw [zb_size, brow_size, hol]) (brow_one _) ?_)
          | (refine wpList_load_mid rfl 26 _ rfl w4.heap.size 0 rfl ((opD O).map u8) _ (range_row (unhide HNW)) Tryd.underlying26 rfl (unhide HSOL) ?_)
          | (refine wpList_load_mid rfl 26 _ rfl w1.heap.size 0 rfl (x.map u8) _ (range_row (unhide HX5)) Tryd.underlying26 rfl (unhide HSXL) ?_))
        refine Calls.mono (over_l z O x _ hz hw (unhide HOK) (unhide HX) (unhide HXF) ((unhide HT).k (unhide HK5))) ?_
        rintro e w6 ⟨rfl, k6⟩
        rw [← unhide HC]
        have HZ6 := hide (k6.heap (unhide HZ5) (by simp))
        have HK6 := hide ((unhide HK5).trans k6 (by simp))
        clear k6 HX5 HZ5 HNW
        go_wp2_with (refine wpList_store_row rfl 26 _ _ rfl (w.heap.size + 1) (brow (opD F)) rfl rfl _ (zb 32) (unhide HZ6) (by rw [brow_size, hfl]; exact Tryd.size_dig) (by rw [zb_size, brow_size, hfl]) (brow_one _) ?_)
        refine bodyPost_ret (v := .tuple #[.agg (brow (opD F)), .int .i64 (opE F)]) ?_ rfl ⟨rfl, (unhide HK6).setRow (Or.inr (by omega)) _⟩
        exact results_cell_tmp rfl _ _ (w.heap.size + 1) _ (brow (opD F)) (0, 0) _ rfl (setRow_heap _ _ _ _ _ _ (unhide HZ6)) Tryd.underlying26 rfl (by rw [brow_size, hfl]; exact Tryd.size_dig) _ rfl
      · have hik' : ¬ (i : Int) < (spl n : Nat) := by omega
        have hs1 : ((i : Int) - (spl n : Nat)) = ((i - spl n : Nat) : Int) := by omega
        have hs2 : ((n : Int) - (spl n : Nat)) = ((n - spl n : Nat) : Int) := by omega
        have hb1 : ((spl n : Nat) : Int) ≤ i := by omega
        have hb2 : ((spl n : Nat) : Int) ≤ n := by omega
        have HC := hide (by rw [← unhide HFF]; conv => lhs; unfold clD; rw [if_neg h1, if_neg hik] : F = (clD z leaf r (i - spl n) (n - spl n)).map (fun y => nodS z x y))
        have IH := fun (w' : World) (h' : RdD w' (.slice a1 n1 c1) r.reverse) (t' : Tabs w') => ih (i - spl n) (n - spl n) (.slice a1 n1 c1) w' (by omega) (by omega) h' (unhide HRF) t'
        have HOK := hide (clD_ok hw hl hf r (i - spl n) (n - spl n))
        generalize clD z leaf r (i - spl n) (n - spl n) = O at HC IH HOK
        go_wp2_with (refine wpList_load_mid rfl 26 _ rfl w.heap.size 0 rfl (leaf.map u8) _ (range_row (unhide HG3)) Tryd.underlying26 rfl (unhide HSL) ?_)
        refine Calls.mono (IH _ (unhide HD3) ((unhide HT).k (unhide HK3))) ?_
        rintro e w4 ⟨rfl, k4⟩
        have HX4 := hide (k4.heap (unhide HX3) (by simp))
        have HZ4 := hide (k4.heap (unhide HZ3) (by simp))
        have HK4 := hide ((unhide HK3).trans k4 (by simp))
        clear k4 HX3 HD3 HG3 HZ3 IH
        have hol := (opD_dg (fun d hd => (unhide HOK d hd).1)).1
        have HSO := hide (by rw [brow_size, hol]; exact Tryd.size_dig : (Tryd.prog.info? 26).map (·.size) = some (brow (opD O)).size)
        have HSOL := hide (by rw [List.length_map, hol]; exact Tryd.size_dig : (Tryd.prog.info? 26).map (·.size) = some ((opD O).map u8).length)
        have HNW := hide (setRow_heap (w4.alloc (.cells (zb 32) 26)) w4.heap.size (zb 32) (brow (opD O)) 26 (0, 0) (heap_alloc_new _ _))
        have k5 := ((Kept.refl [] w4).alloc (.cells (zb 32) 26)).setRow (g := w4.heap.size) (Or.inr (Nat.le_refl _)) (brow (opD O))
        have HX5 := hide (k5.heap (unhide HX4) (by simp))
        have HZ5 := hide (k5.heap (unhide HZ4) (by simp))
        have HK5 := hide ((unhide HK4).trans k5 (by simp))
        clear k5 HX4 HZ4
        go_wp2_with (first
          | (rw [zb32]; refine wpList_store_row rfl 26 _ _ rfl w4.heap.size (brow (opD O)) rfl rfl _ (zb 32) (heap_alloc_new _ _) (unhide HSO) (by rw [zb_size, brow_size, hol]) (brow_one _) ?_)
          | (refine wpList_load_mid rfl 26 _ rfl w4.heap.size 0 rfl ((opD O).map u8) _ (range_row (unhide HNW)) Tryd.underlying26 rfl (unhide HSOL) ?_)
          | (refine wpList_load_mid rfl 26 _ rfl w1.heap.size 0 rfl (x.map u8) _ (range_row (unhide HX5)) Tryd.underlying26 rfl (unhide HSXL) ?_))
        refine Calls.mono (over_r z O x _ hz hw (unhide HOK) (unhide HX) (unhide HXF) ((unhide HT).k (unhide HK5))) ?_
        rintro e w6 ⟨rfl, k6⟩
        rw [← unhide HC]
        have HZ6 := hide (k6.heap (unhide HZ5) (by simp))
        have HK6 := hide ((unhide HK5).trans k6 (by simp))
        clear k6 HX5 HZ5 HNW
        go_wp2_with (refine wpList_store_row rfl 26 _ _ rfl (w.heap.size + 1) (brow (opD F)) rfl rfl _ (zb 32) (unhide HZ6) (by rw [brow_size, hfl]; exact Tryd.size_dig) (by rw [zb_size, brow_size, hfl]) (brow_one _) ?_)
        refine bodyPost_ret (v := .tuple #[.agg (brow (opD F)), .int .i64 (opE F)]) ?_ rfl ⟨rfl, (unhide HK6).setRow (Or.inr (by omega)) _⟩
        exact results_cell_tmp rfl _ _ (w.heap.size + 1) _ (brow (opD F)) (0, 0) _ rfl (setRow_heap _ _ _ _ _ _ (unhide HZ6)) Tryd.underlying26 rfl (by rw [brow_size, hfl]; exact Tryd.size_dig) _ rfl
end Go.Proofs.YtajfaekfhohbmaaDoor
namespace Go.Proofs.YtajfaekfhohbmaaDoor
open Go.RowKit Go.BigFrame
set_option linter.unusedVariables false
set_option linter.unusedSimpArgs false

set_option maxRecDepth 100000 in
set_option maxHeartbeats 2000000 in
theorem mformed_any (z : Int) (pv kv : Value) (ps ks : List (List Nat)) (w : World) (hz : -9223372036854775808 ≤ z ∧ z ≤ 9223372036854775807) (hp : RdD w pv ps) (hk : RdD w kv ks) :
    Calls Tryd.prog 49 #[.int .i64 z, pv, kv] w fun e w' => e = .returned (.int .i64 (formedE z (ks ++ ps))) ∧ Kept [] w w' := by
  have HP := hide hp
  have HK := hide hk
  obtain ⟨ao, len, cap, rfl, h1, h2, h3, h4, h5⟩ := hp
  obtain ⟨ao', len', cap', rfl, h1', h2', h3', h4', h5'⟩ := hk
  clear h4 h5 h4' h5'
  obtain ⟨E, hE⟩ : ∃ E, formedE z (ks ++ ps) = E := ⟨_, rfl⟩
  have HE := hide hE
  rw [hE]
  clear hE
  go_enter Tryd.func49, Tryd.ntmps49
  by_cases hw1 : z < 1
  · have HE1 := hide (by rw [← unhide HE]; unfold formedE widthB; rw [if_pos (by simp; omega)] : E = 1)
    go_wp2
    go_ret
    exact ⟨by rw [unhide HE1]; rfl, Kept.refl _ _⟩
  · by_cases hw2 : 32 < z
    · have HE1 := hide (by rw [← unhide HE]; unfold formedE widthB; rw [if_pos (by simp; omega)] : E = 1)
      go_wp2
      go_ret
      exact ⟨by rw [unhide HE1]; rfl, Kept.refl _ _⟩
    · have HW := hide (by simp [widthB]; omega : widthB z = true)
      go_wp2_with fail
      have HK0 := hide ((Kept.refl [] w).alloc (.cells #[.slice ao' len' cap', .slice ao len cap] 22))
      have HG0 := hide (heap_alloc_new w (.cells #[.slice ao' len' cap', .slice ao len cap] 22))
      obtain ⟨W0, hW0⟩ : ∃ W0, w.alloc (.cells #[.slice ao' len' cap', .slice ao len cap] 22) = W0 := ⟨_, rfl⟩
      rw [hW0] at HK0 HG0 ⊢
      clear hW0
      go_loopw [21] (fun t21 wr => ∃ (i : Nat), i ≤ 2 ∧ t21 = .int .i64 i ∧ Hid (1 ≤ i → ks.all (formB z) = true) ∧ Hid (2 ≤ i → ps.all (formB z) = true) ∧ Hid (Kept [] W0 wr)) (fun t _ => 2 - (intOf t).toNat)
      case atStart => exact ⟨0, by omega, rfl, hide (by omega), hide (by omega), hide (Kept.refl _ _)⟩
      case round =>
        obtain ⟨i, hi, rfl, HA, HB, HK1⟩ := hrel
        by_cases hlt : i < 2
        · have hlt' : (i : Int) < 2 := by omega
          obtain ⟨la, ll, lc, ls, HLS⟩ : ∃ la ll lc ls, Hid (wr.cell? ⟨w.heap.size, i, none⟩ = some (.slice la ll lc) ∧ RdD wr (.slice la ll lc) ls ∧ (ls.all (formB z) = true → (1 ≤ i + 1 → ks.all (formB z) = true) ∧ (2 ≤ i + 1 → ps.all (formB z) = true)) ∧ (∀ y ∈ ls, y ∈ ks ++ ps)) := by
            have hg := (unhide HK1).heap (unhide HG0) (by simp)
            rcases (by omega : i = 0 ∨ i = 1) with rfl | rfl
            · exact ⟨ao', len', cap', ks, hide ⟨by rw [cell_of_row _ _ _ _ _ _ hg]; rfl, ((unhide HK).old (unhide HK0)).old (unhide HK1), fun h => ⟨fun _ => h, by omega⟩, fun y hy => by simp [hy]⟩⟩
            · exact ⟨ao, len, cap, ps, hide ⟨by rw [cell_of_row _ _ _ _ _ _ hg]; rfl, ((unhide HP).old (unhide HK0)).old (unhide HK1), fun h => ⟨fun _ => unhide HA (by omega), fun _ => h⟩, fun y hy => by simp [hy]⟩⟩
          have hcl := (unhide HLS).1
          have hll := (unhide HLS).2.1.nil_len
          have HR := hide (unhide HLS).2.1
          have HQ := hide (unhide HLS).2.2
          clear HLS
          subst hll
          go_wp2_with fail
          obtain ⟨wo, hwo⟩ : ∃ wo, wo = wr := ⟨_, rfl⟩
          subst hwo
          go_loopw [27] (fun t27 wq => ∃ (j : Nat), j ≤ ls.length ∧ t27 = .int .i64 j ∧ Hid ((ls.take j).all (formB z) = true) ∧ Hid (Kept [] wo wq)) (fun t _ => ls.length - (intOf t).toNat)
          case atStart => exact ⟨0, Nat.zero_le _, rfl, hide (by simp), hide (Kept.refl _ _)⟩
          case round =>
            obtain ⟨j, hj, rfl, HAJ, HKJ⟩ := hrel
            by_cases hjl : j < ls.length
            · have hjl' : (j : Int) < ls.length := by omega
              obtain ⟨ra, rl, rc, re, r1, r2, r3, r4, r5⟩ := unhide HR
              cases re
              obtain ⟨b, o, rfl, hcell⟩ := r5 (by omega)
              have HD := hide (r4 (ls.getD j []) (by rw [List.getD_eq_getElem?_getD, List.getElem?_eq_getElem hjl]; exact List.getElem_mem hjl))
              have HRG := hide (fun u v hv => (unhide HKJ).cell (hcell j hjl u v hv) (by simp) : wr.rangeAt b (o + j * 32) ((ls.getD j []).map Go.Proofs.YtajfaekfhohbmaaDoor.u8))
              have HN := hide (by rw [List.take_succ_eq_append_getElem hjl, List.all_append, unhide HAJ, List.getD_eq_getElem?_getD, List.getElem?_eq_getElem hjl]; simp : (ls.take (j + 1)).all (formB z) = formB z (ls.getD j []))
              have HM := hide (fun (h : formB z (ls.getD j []) = false) => by
                have : (ks ++ ps).all (formB z) = false := by
                  rw [List.all_eq_false]
                  exact ⟨ls.getD j [], (unhide HQ).2 _ (by rw [List.getD_eq_getElem?_getD, List.getElem?_eq_getElem hjl]; exact List.getElem_mem hjl), by rw [h]; decide⟩
                rw [← unhide HE]; unfold formedE; rw [if_neg (by rw [unhide HW]; simp), if_neg (by rw [this]; simp)] : formB z (ls.getD j []) = false → E = 3)
              clear hcell r4 r5
              obtain ⟨d, hd⟩ : ∃ d, ls.getD j [] = d := ⟨_, rfl⟩
              rw [hd] at HD HRG HN HM
              clear hd
              have hdl := (unhide HD).1
              have HSZ := hide (by rw [brow_size, hdl]; exact Tryd.size_dig : (Tryd.prog.info? 26).map (·.size) = some (brow d).size)
              have HNW := hide (setRow_heap (wr.alloc (.cells (zb 32) 26)) wr.heap.size (zb 32) (brow d) 26 (0, 0) (heap_alloc_new _ _))
              have HKN := hide (((unhide HKJ).alloc (.cells (zb 32) 26)).setRow (g := wr.heap.size) (Or.inr (unhide HKJ).size) (brow d))
              go_wp2_with (first
                | (refine wpList_load_mid rfl 26 (.tmp 29) rfl b (o + j * 32) rfl (d.map Go.Proofs.YtajfaekfhohbmaaDoor.u8) _ (unhide HRG) Tryd.underlying26 rfl (by rw [List.length_map, hdl]; exact Tryd.size_dig) ?_)
                | (rw [zb32]; refine wpList_store_row rfl 26 (.tmp 10) _ rfl wr.heap.size (brow d) rfl rfl _ (zb 32) (heap_alloc_new _ _) (unhide HSZ) (by rw [zb_size, brow_size, hdl]) (brow_one _) ?_)
                | (refine wpList_load_row rfl 26 (.tmp 10) rfl wr.heap.size rfl _ (brow d) (0, 0) _ (unhide HNW) Tryd.underlying26 rfl (unhide HSZ) ?_))
              refine Calls.mono (form_any z d _ hz hdl (unhide HD).2) ?_
              rintro e w4 ⟨rfl, k4⟩
              have HK4 := hide ((unhide HKN).trans k4 (by simp))
              clear k4
              cases hf : formB z d with
              | true =>
                rw [hf] at HN
                clear hf
                go_wp2
                go_roundw
                case rel => exact ⟨j + 1, by omega, by go_num, HN, HK4⟩
                case measure => simp [intOf]; omega
              | false =>
                have HF := hide (unhide HM hf)
                clear hf
                go_wp2
                go_ret
                exact ⟨by rw [unhide HF]; rfl, ((unhide HK0).trans (unhide HK1) (by simp)).trans (unhide HK4) (by simp)⟩
            · have hjl' : ¬ (j : Int) < ls.length := by omega
              have hje : j = ls.length := by omega
              subst hje
              rw [List.take_length] at HAJ
              have HQQ := hide ((unhide HQ).1 (unhide HAJ))
              go_wp2
              go_roundw
              case rel => exact ⟨i + 1, by omega, by go_num, hide (unhide HQQ).1, hide (unhide HQQ).2, hide ((unhide HK1).trans (unhide HKJ) (by simp))⟩
              case measure => simp [intOf]; omega
        · have hlt' : ¬ (i : Int) < 2 := by omega
          have HE1 := hide (by rw [← unhide HE]; unfold formedE; rw [if_neg (by rw [unhide HW]; simp), if_pos (by rw [List.all_append, unhide HA (by omega), unhide HB (by omega)]; rfl)] : E = 0)
          go_wp2
          go_ret
          exact ⟨by rw [unhide HE1]; rfl, (unhide HK0).trans (unhide HK1) (by simp)⟩
end Go.Proofs.YtajfaekfhohbmaaDoor
namespace Go.Proofs.YtajfaekfhohbmaaDoor
open Go.RowKit Go.BigFrame
set_option linter.unusedVariables false
set_option linter.unusedSimpArgs false

theorem RdD.one {w : World} {g : Nat} {l : List Nat} {t : TypeId} {fr : Nat × Nat} (h : w.heap[g]? = some (.cells (brow l) t fr)) (hl : Dg l) : RdD w (.slice (some ⟨g, 0, none⟩) 1 1) [l] := by
  refine ⟨_, 1, 1, rfl, rfl, Nat.le_refl _, by omega, fun d hd => by simp at hd; subst hd; exact hl, fun _ => ⟨g, 0, rfl, fun i hi => ?_⟩⟩
  obtain rfl : i = 0 := by omega
  exact range_row h

theorem one_dig (l : List Nat) (hl : l.length = 32) : List.foldl (fun cs x => cs.setIfInBounds x.snd x.fst) (zb 32) (List.map u8 l).zipIdx = brow l := by
  have h := fold_put (l.map u8) (zb 32) 0 0 (by rw [zb_size]; simp [hl])
  simp only [Nat.zero_add] at h
  rw [h]
  unfold brow
  rw [List.take_zero, List.nil_append, List.drop_eq_nil_of_le (by rw [List.length_map, hl, Array.length_toList, zb_size]; exact Nat.le_refl _), List.append_nil]
theorem rootE_f {z : Int} {leaf : List Nat} {i n : Nat} {p : List (List Nat)} (h : formedE z (leaf :: p) ≠ 0) : rootE z leaf i n p = formedE z (leaf :: p) ∧ rootD z leaf i n p = zD := by
  have e : rootE z leaf i n p = formedE z (leaf :: p) := by unfold rootE; rw [if_pos h]
  exact ⟨e, by unfold rootD; rw [e, if_neg h]⟩
theorem rootE_r {z : Int} {leaf : List Nat} {i n : Nat} {p : List (List Nat)} (h : formedE z (leaf :: p) = 0) (hr : n ≤ i) : rootE z leaf i n p = 4 ∧ rootD z leaf i n p = zD := by
  have e : rootE z leaf i n p = 4 := by unfold rootE; rw [if_neg (by omega), if_pos hr]
  exact ⟨e, by unfold rootD; rw [e, if_neg (by decide)]⟩
theorem rootE_c {z : Int} {leaf : List Nat} {i n : Nat} {p : List (List Nat)} (h : formedE z (leaf :: p) = 0) (hr : ¬ n ≤ i) : rootE z leaf i n p = opE (clD z leaf p.reverse i n) ∧ rootD z leaf i n p = opD (clD z leaf p.reverse i n) := by
  have e : rootE z leaf i n p = opE (clD z leaf p.reverse i n) := by unfold rootE; rw [if_neg (by omega), if_neg hr]; rfl
  refine ⟨e, ?_⟩
  unfold rootD
  rw [e]
  unfold opE opD clO
  cases clD z leaf p.reverse i n <;> rfl
theorem rootD_dg {z : Int} {leaf : List Nat} {i n : Nat} {p : List (List Nat)} (hl : Dg leaf) : Dg (rootD z leaf i n p) := by
  by_cases h : formedE z (leaf :: p) = 0
  · obtain ⟨hw, hf⟩ := formedE_zero h
    by_cases hr : n ≤ i
    · rw [(rootE_r h hr).2]; exact zD_dg
    · rw [(rootE_c h hr).2]; exact opD_dg fun d hd => (clD_ok hw hl (hf leaf (by simp)) _ _ _ d hd).1
  · rw [(rootE_f h).2]; exact zD_dg

set_option maxRecDepth 100000 in
set_option maxHeartbeats 2000000 in
theorem rootOf_any (z : Int) (leaf : List Nat) (i n : Nat) (pv : Value) (p : List (List Nat)) (w : World) (hz : -9223372036854775808 ≤ z ∧ z ≤ 9223372036854775807) (hl : Dg leaf) (hi : i < 18446744073709551616) (hn : n < 18446744073709551616) (hp : RdD w pv p) (hT : Tabs w) :
    Calls Tryd.prog 23 #[.int .i64 z, .agg (brow leaf), .int .u64 i, .int .u64 n, pv] w fun e w' => e = .returned (.tuple #[.agg (brow (rootD z leaf i n p)), .int .i64 (rootE z leaf i n p)]) ∧ Kept [] w w' := by
  have HP := hide hp
  obtain ⟨ao, len, cap, rfl, h1, h2, h3, h4, h5⟩ := hp
  clear h4 h5
  have HT := hide hT
  have HL := hide hl
  have hll := hl.1
  clear hT
  have hDl : (rootD z leaf i n p).length = 32 := (rootD_dg hl).1
  obtain ⟨D, hD⟩ : ∃ D, rootD z leaf i n p = D := ⟨_, rfl⟩
  obtain ⟨E, hE⟩ : ∃ E, rootE z leaf i n p = E := ⟨_, rfl⟩
  have HD := hide hD
  have HE := hide hE
  rw [hD] at hDl
  rw [hD, hE]
  clear hD hE
  go_enter Tryd.func23, Tryd.ntmps23
  have HGL := hide (((Kept.refl [] (w.alloc (.cells (brow leaf) 26))).alloc (.cells (zb 32) 26)).heap (heap_alloc_new w (.cells (brow leaf) 26)) (by simp))
  have HGZ := hide (alloc_at w (.cells (brow leaf) 26) (.cells (zb 32) 26))
  have HK0 := hide (((Kept.refl [] w).alloc (.cells (brow leaf) 26)).alloc (.cells (zb 32) 26))
  go_wp2_with (refine wpList_load_mid rfl 26 _ rfl w.heap.size 0 rfl (leaf.map u8) _ (range_row (unhide HGL)) Tryd.underlying26 rfl (by rw [List.length_map, hll]; exact Tryd.size_dig) ?_)
  rw [zb32, one_dig leaf hll]
  have HGA := hide (alloc3_at w (.cells (brow leaf) 26) (.cells (zb 32) 26) (.cells (brow leaf) 26))
  have k0 := (Kept.refl [] ((w.alloc (.cells (brow leaf) 26)).alloc (.cells (zb 32) 26))).alloc (.cells (brow leaf) 26)
  refine Calls.mono (mformed_any z _ _ p [leaf] _ hz ((unhide HP).old ((unhide HK0).trans k0 (by simp))) (RdD.one (unhide HGA) (unhide HL))) ?_
  rintro e w1 ⟨rfl, k1⟩
  have k01 := k0.trans k1 (by simp)
  have HK1 := hide ((unhide HK0).trans k01 (by simp))
  have HL1 := hide (k01.heap (unhide HGL) (by simp))
  have HZ1 := hide (k01.heap (unhide HGZ) (by simp))
  clear k0 k1 k01 HGL HGZ HGA
  obtain ⟨f, hf⟩ : ∃ f, formedE z ([leaf] ++ p) = f := ⟨_, rfl⟩
  have HF := hide (show formedE z (leaf :: p) = f from hf)
  rw [hf]
  clear hf
  by_cases hf0 : f = 0
  · subst hf0
    obtain ⟨hw, hff⟩ := formedE_zero (unhide HF)
    have HFF := hide hff
    clear hff
    by_cases hr : n ≤ i
    · have hr' : (n : Int) ≤ i := by omega
      have HC := hide (by rw [← unhide HE, ← unhide HD]; exact rootE_r (unhide HF) hr : E = 4 ∧ D = zD)
      go_wp2_with (rw [zb32]; refine wpList_store_row rfl 26 _ _ rfl (w.heap.size + 1) (zb 32) rfl rfl _ (zb 32) (unhide HZ1) (by rw [zb_size]; exact Tryd.size_dig) rfl (brow_one _) ?_)
      rw [(unhide HC).1, (unhide HC).2]
      refine bodyPost_ret (v := .tuple #[.agg (zb 32), .int .i64 4]) ?_ rfl ⟨rfl, (unhide HK1).setRow (Or.inr (by omega)) _⟩
      exact results_cell_tmp rfl _ _ (w.heap.size + 1) _ (zb 32) (0, 0) _ rfl (setRow_heap _ _ _ _ _ _ (unhide HZ1)) Tryd.underlying26 rfl (by rw [zb_size]; exact Tryd.size_dig) _ rfl
    · have hr' : ¬ (n : Int) ≤ i := by omega
      have HC := hide (by rw [← unhide HE, ← unhide HD]; exact rootE_c (unhide HF) hr : E = opE (clD z leaf p.reverse i n) ∧ D = opD (clD z leaf p.reverse i n))
      go_wp2_with (refine wpList_load_mid rfl 26 _ rfl w.heap.size 0 rfl (leaf.map u8) _ (range_row (unhide HL1)) Tryd.underlying26 rfl (by rw [List.length_map, hll]; exact Tryd.size_dig) ?_)
      refine Calls.mono (climb_any z leaf hz hw (unhide HL) (unhide HFF leaf (by simp)) p.reverse i n _ _ (by omega) hn (by rw [List.reverse_reverse]; exact (unhide HP).old (unhide HK1)) (fun y hy => unhide HFF y (by simp at hy; simp [hy])) ((unhide HT).k (unhide HK1))) ?_
      rintro e w2 ⟨rfl, k2⟩
      rw [← (unhide HC).1, ← (unhide HC).2]
      have HZ2 := hide (k2.heap (unhide HZ1) (by simp))
      have HK2 := hide ((unhide HK1).trans k2 (by simp))
      clear k2 HZ1 HL1
      go_wp2_with (refine wpList_store_row rfl 26 _ _ rfl (w.heap.size + 1) (brow D) rfl rfl _ (zb 32) (unhide HZ2) (by rw [brow_size, hDl]; exact Tryd.size_dig) (by rw [zb_size, brow_size, hDl]) (brow_one _) ?_)
      refine bodyPost_ret (v := .tuple #[.agg (brow D), .int .i64 E]) ?_ rfl ⟨rfl, (unhide HK2).setRow (Or.inr (by omega)) _⟩
      exact results_cell_tmp rfl _ _ (w.heap.size + 1) _ (brow D) (0, 0) _ rfl (setRow_heap _ _ _ _ _ _ (unhide HZ2)) Tryd.underlying26 rfl (by rw [brow_size, hDl]; exact Tryd.size_dig) _ rfl
  · have hb : ((f : Int) != 0) = true := by simp; omega
    have HC := hide (by rw [← unhide HE, ← unhide HD, ← unhide HF]; exact rootE_f (by rw [unhide HF]; exact hf0) : E = f ∧ D = zD)
    go_wp2_with (rw [zb32]; refine wpList_store_row rfl 26 _ _ rfl (w.heap.size + 1) (zb 32) rfl rfl _ (zb 32) (unhide HZ1) (by rw [zb_size]; exact Tryd.size_dig) rfl (brow_one _) ?_)
    rw [(unhide HC).1, (unhide HC).2]
    refine bodyPost_ret (v := .tuple #[.agg (zb 32), .int .i64 f]) ?_ rfl ⟨rfl, (unhide HK1).setRow (Or.inr (by omega)) _⟩
    exact results_cell_tmp rfl _ _ (w.heap.size + 1) _ (zb 32) (0, 0) _ rfl (setRow_heap _ _ _ _ _ _ (unhide HZ1)) Tryd.underlying26 rfl (by rw [zb_size]; exact Tryd.size_dig) _ rfl
end Go.Proofs.YtajfaekfhohbmaaDoor
namespace Go.Proofs.YtajfaekfhohbmaaDoor
open Go.RowKit Go.BigFrame
set_option linter.unusedVariables false
set_option linter.unusedSimpArgs false

set_option maxRecDepth 100000 in
set_option maxHeartbeats 2000000 in
theorem rpath_any (k : Nat) (leaf : List Nat) (hk : 1 ≤ k ∧ k ≤ 32) (hl : Dg leaf) : ∀ (rp : List (List Nat)) (i n : Nat) (pv : Value) (w : World), i < n → n < 18446744073709551616 → RdD w pv rp.reverse →
    Calls Tryd.prog 72 #[.int .i64 k, .agg (brow leaf), .int .u64 i, .int .u64 n, pv] w fun e w' => ∃ d, e = .returned (.tuple #[.agg (brow d), .bool (clD k leaf rp i n).isSome]) ∧ Dg d ∧ (∀ x, clD k leaf rp i n = some x → d = x) ∧ Kept [] w w' := by
  intro rp
  induction rp with
  | nil =>
    intro i n pv w hi hn hp
    obtain ⟨ao, len, cap, rfl, h1, h2, h3, h4, h5⟩ := hp
    have hlen : len = 0 := by simpa using h1.symm
    subst hlen
    clear h1 h2 h3 h4 h5
    have hll := hl.1
    have HL := hide hl
    obtain ⟨F, hF⟩ : ∃ F, clD k leaf [] i n = F := ⟨_, rfl⟩
    have HFF := hide hF
    rw [hF]
    clear hF
    go_enter Tryd.func72, Tryd.ntmps72
    have HGL := hide (((Kept.refl [] (w.alloc (.cells (brow leaf) 26))).alloc (.cells (zb 32) 26)).heap (heap_alloc_new w (.cells (brow leaf) 26)) (by simp))
    have HGZ := hide (alloc_at w (.cells (brow leaf) 26) (.cells (zb 32) 26))
    have HK0 := hide (((Kept.refl [] w).alloc (.cells (brow leaf) 26)).alloc (.cells (zb 32) 26))
    by_cases h1 : n = 1
    · have h1' : ((n : Int) == 1) = true := by simp; omega
      have HC := hide (by rw [← unhide HFF]; unfold clD; rw [if_pos h1] : F = some leaf)
      go_wp2_with (first
        | (refine wpList_load_mid rfl 26 _ rfl w.heap.size 0 rfl (leaf.map u8) _ (range_row (unhide HGL)) Tryd.underlying26 rfl (by rw [List.length_map, hll]; exact Tryd.size_dig) ?_)
        | (rw [zb32]; refine wpList_store_row rfl 26 _ _ rfl (w.heap.size + 1) (brow leaf) rfl rfl _ (zb 32) (unhide HGZ) (by rw [brow_size, hll]; exact Tryd.size_dig) (by rw [zb_size, brow_size, hll]) (brow_one _) ?_))
      refine bodyPost_ret (v := .tuple #[.agg (brow leaf), .bool true]) ?_ rfl ⟨leaf, by rw [unhide HC]; rfl, unhide HL, (fun y hy => by rw [unhide HC] at hy; cases hy; rfl), (unhide HK0).setRow (Or.inr (by omega)) _⟩
      exact results_cell_tmp rfl _ _ (w.heap.size + 1) _ (brow leaf) (0, 0) _ rfl (setRow_heap _ _ _ _ _ _ (unhide HGZ)) Tryd.underlying26 rfl (by rw [brow_size, hll]; exact Tryd.size_dig) _ rfl
    · have h1' : ((n : Int) == 1) = false := by simp; omega
      have HC := hide (by rw [← unhide HFF]; unfold clD; rw [if_neg h1] : F = none)
      go_wp2_with (rw [zb32]; refine wpList_store_row rfl 26 _ _ rfl (w.heap.size + 1) (zb 32) rfl rfl _ (zb 32) (unhide HGZ) (by rw [zb_size]; exact Tryd.size_dig) rfl (brow_one _) ?_)
      refine bodyPost_ret (v := .tuple #[.agg (zb 32), .bool false]) ?_ rfl ⟨zD, by rw [unhide HC]; rfl, zD_dg, (fun y hy => by rw [unhide HC] at hy; cases hy), (unhide HK0).setRow (Or.inr (by omega)) _⟩
      exact results_cell_tmp rfl _ _ (w.heap.size + 1) _ (zb 32) (0, 0) _ rfl (setRow_heap _ _ _ _ _ _ (unhide HGZ)) Tryd.underlying26 rfl (by rw [zb_size]; exact Tryd.size_dig) _ rfl
  | cons x r ih =>
    intro i n pv w hi hn hp
    have HP := hide hp
    obtain ⟨ao, len, cap, rfl, h1, h2, h3, h4, h5⟩ := hp
    have hlen : len = r.length + 1 := by rw [← h1]; simp
    subst hlen
    clear h1 h4 h5
    have hll := hl.1
    have HL := hide hl
    have HX := hide ((unhide HP).dg (show x ∈ (x :: r).reverse by simp))
    have hxl := (unhide HX).1
    obtain ⟨F, hF⟩ : ∃ F, clD k leaf (x :: r) i n = F := ⟨_, rfl⟩
    have HFF := hide hF
    rw [hF]
    clear hF
    go_enter Tryd.func72, Tryd.ntmps72
    have HGL := hide (((Kept.refl [] (w.alloc (.cells (brow leaf) 26))).alloc (.cells (zb 32) 26)).heap (heap_alloc_new w (.cells (brow leaf) 26)) (by simp))
    have HGZ := hide (alloc_at w (.cells (brow leaf) 26) (.cells (zb 32) 26))
    have HK0 := hide (((Kept.refl [] w).alloc (.cells (brow leaf) 26)).alloc (.cells (zb 32) 26))
    by_cases h1 : n = 1
    · have h1' : ((n : Int) == 1) = true := by simp; omega
      have hne : (((r.length : Int) + 1) == 0) = false := by simp; omega
      have HC := hide (by rw [← unhide HFF]; unfold clD; rw [if_pos h1] : F = none)
      go_wp2_with (first
        | (refine wpList_load_mid rfl 26 _ rfl w.heap.size 0 rfl (leaf.map u8) _ (range_row (unhide HGL)) Tryd.underlying26 rfl (by rw [List.length_map, hll]; exact Tryd.size_dig) ?_)
        | (rw [zb32]; refine wpList_store_row rfl 26 _ _ rfl (w.heap.size + 1) (brow leaf) rfl rfl _ (zb 32) (unhide HGZ) (by rw [brow_size, hll]; exact Tryd.size_dig) (by rw [zb_size, brow_size, hll]) (brow_one _) ?_))
      refine bodyPost_ret (v := .tuple #[.agg (brow leaf), .bool false]) ?_ rfl ⟨leaf, by rw [unhide HC]; rfl, unhide HL, (fun y hy => by rw [unhide HC] at hy; cases hy), (unhide HK0).setRow (Or.inr (by omega)) _⟩
      exact results_cell_tmp rfl _ _ (w.heap.size + 1) _ (brow leaf) (0, 0) _ rfl (setRow_heap _ _ _ _ _ _ (unhide HGZ)) Tryd.underlying26 rfl (by rw [brow_size, hll]; exact Tryd.size_dig) _ rfl
    · have h1' : ((n : Int) == 1) = false := by simp; omega
      have hne : (((r.length : Int) + 1) == 0) = false := by simp; omega
      go_wp2_with fail
      refine Calls.mono (ended_any _ (x :: r).reverse r x _ ((unhide HP).old (unhide HK0)) (by simp)) ?_
      rintro e w1 ⟨u1, rfl, d1, k1⟩
      have HD1 := hide d1
      have HG1 := hide (k1.heap (unhide HGL) (by simp))
      have HZ1 := hide (k1.heap (unhide HGZ) (by simp))
      have HK1 := hide ((unhide HK0).trans k1 (by simp))
      obtain ⟨a1, n1, c1, rfl, _⟩ := id d1
      clear d1 k1 HGL HGZ
      have HXW := hide (setRow_heap (w1.alloc (.cells (zb 32) 26)) w1.heap.size (zb 32) (brow x) 26 (0, 0) (heap_alloc_new _ _))
      have k2 := ((Kept.refl [] w1).alloc (.cells (zb 32) 26)).setRow (g := w1.heap.size) (Or.inr (Nat.le_refl _)) (brow x)
      have HSX := hide (by rw [brow_size, hxl]; exact Tryd.size_dig : (Tryd.prog.info? 26).map (·.size) = some (brow x).size)
      have HSXL := hide (by rw [List.length_map, hxl]; exact Tryd.size_dig : (Tryd.prog.info? 26).map (·.size) = some (x.map u8).length)
      have HSL := hide (by rw [List.length_map, hll]; exact Tryd.size_dig : (Tryd.prog.info? 26).map (·.size) = some (leaf.map u8).length)
      have HD2 := hide ((unhide HD1).old k2)
      have HG2 := hide (k2.heap (unhide HG1) (by simp))
      have HZ2 := hide (k2.heap (unhide HZ1) (by simp))
      have HK2 := hide ((unhide HK1).trans k2 (by simp))
      clear k2 HD1 HG1 HZ1
      go_wp2_with (rw [zb32]; refine wpList_store_row rfl 26 _ _ rfl w1.heap.size (brow x) rfl rfl _ (zb 32) (heap_alloc_new _ _) (unhide HSX) (by rw [zb_size, brow_size, hxl]) (brow_one _) ?_)
      refine Calls.mono (refSplit_any n _ (by omega) hn) ?_
      rintro e w3 ⟨rfl, k3⟩
      have HX3 := hide (k3.heap (unhide HXW) (by simp))
      have HD3 := hide ((unhide HD2).old k3)
      have HG3 := hide (k3.heap (unhide HG2) (by simp))
      have HZ3 := hide (k3.heap (unhide HZ2) (by simp))
      have HK3 := hide ((unhide HK2).trans k3 (by simp))
      clear k3 HXW HD2 HG2 HZ2
      have hk1 := spl_pos n
      have hk2 := spl_lt (n := n) (by omega)
      have HK12 := hide (unhide HK1).size
      by_cases hik : i < spl n
      · have hik' : (i : Int) < (spl n : Nat) := by omega
        have HC := hide (by rw [← unhide HFF]; conv => lhs; unfold clD; rw [if_neg h1, if_pos hik] : F = (clD k leaf r i (spl n)).map (fun y => nodS k y x))
        have IH := fun (w' : World) (h' : RdD w' (.slice a1 n1 c1) r.reverse) => ih i (spl n) (.slice a1 n1 c1) w' hik (by omega) h'
        generalize clD k leaf r i (spl n) = O at HC IH
        go_wp2_with (refine wpList_load_mid rfl 26 _ rfl w.heap.size 0 rfl (leaf.map u8) _ (range_row (unhide HG3)) Tryd.underlying26 rfl (unhide HSL) ?_)
        refine Calls.mono (IH _ (unhide HD3)) ?_
        rintro e w4 ⟨d4, rfl, g4, q4, k4⟩
        have HOK := hide (And.intro g4 q4)
        have HX4 := hide (k4.heap (unhide HX3) (by simp))
        have HZ4 := hide (k4.heap (unhide HZ3) (by simp))
        have HK4 := hide ((unhide HK3).trans k4 (by simp))
        clear k4 HX3 HD3 HG3 HZ3 IH g4 q4
        have hol := (unhide HOK).1.1
        have HSO := hide (by rw [brow_size, hol]; exact Tryd.size_dig : (Tryd.prog.info? 26).map (·.size) = some (brow d4).size)
        have HSOL := hide (by rw [List.length_map, hol]; exact Tryd.size_dig : (Tryd.prog.info? 26).map (·.size) = some (d4.map u8).length)
        have HNW := hide (setRow_heap (w4.alloc (.cells (zb 32) 26)) w4.heap.size (zb 32) (brow d4) 26 (0, 0) (heap_alloc_new _ _))
        have k5 := ((Kept.refl [] w4).alloc (.cells (zb 32) 26)).setRow (g := w4.heap.size) (Or.inr (Nat.le_refl _)) (brow d4)
        have HX5 := hide (k5.heap (unhide HX4) (by simp))
        have HZ5 := hide (k5.heap (unhide HZ4) (by simp))
        have HK5 := hide ((unhide HK4).trans k5 (by simp))
        clear k5 HX4 HZ4
        go_wp2_with (first
          | (rw [zb32]; refine wpList_store_row rfl 26 _ _ rfl w4.heap.size (brow d4) rfl rfl _ (zb 32) (heap_alloc_new _ _) (unhide HSO) (by rw [zb_size, brow_size, hol]) (brow_one _) ?_)
          | (refine wpList_load_mid rfl 26 _ rfl w4.heap.size 0 rfl (d4.map u8) _ (range_row (unhide HNW)) Tryd.underlying26 rfl (unhide HSOL) ?_)
          | (refine wpList_load_mid rfl 26 _ rfl w1.heap.size 0 rfl (x.map u8) _ (range_row (unhide HX5)) Tryd.underlying26 rfl (unhide HSXL) ?_))
        refine Calls.mono (refNode_any k d4 x _ hk (unhide HOK).1 (unhide HX)) ?_
        rintro e w6 ⟨rfl, k6⟩
        have hfl := (nodS_dg k d4 x).1
        have HND := hide (nodS_dg k d4 x)
        have HEQ := hide (fun y (hy : F = some y) => by rw [unhide HC] at hy; obtain ⟨u, hu, rfl⟩ := Option.map_eq_some_iff.1 hy; rw [(unhide HOK).2 u hu] : ∀ y, F = some y → nodS k d4 x = y)
        have HIS := hide (by rw [unhide HC]; cases O <;> rfl : O.isSome = F.isSome)
        generalize nodS k d4 x = N at hfl HND HEQ
        have HZ6 := hide (k6.heap (unhide HZ5) (by simp))
        have HK6 := hide ((unhide HK5).trans k6 (by simp))
        clear k6 HX5 HZ5 HNW
        go_wp2_with (refine wpList_store_row rfl 26 _ _ rfl (w.heap.size + 1) (brow N) rfl rfl _ (zb 32) (unhide HZ6) (by rw [brow_size, hfl]; exact Tryd.size_dig) (by rw [zb_size, brow_size, hfl]) (brow_one _) ?_)
        refine bodyPost_ret (v := .tuple #[.agg (brow N), .bool O.isSome]) ?_ rfl ⟨N, by rw [unhide HIS], unhide HND, unhide HEQ, (unhide HK6).setRow (Or.inr (by omega)) _⟩
        exact results_cell_tmp rfl _ _ (w.heap.size + 1) _ (brow N) (0, 0) _ rfl (setRow_heap _ _ _ _ _ _ (unhide HZ6)) Tryd.underlying26 rfl (by rw [brow_size, hfl]; exact Tryd.size_dig) _ rfl
      · have hik' : ¬ (i : Int) < (spl n : Nat) := by omega
        have hs1 : ((i : Int) - (spl n : Nat)) = ((i - spl n : Nat) : Int) := by omega
        have hs2 : ((n : Int) - (spl n : Nat)) = ((n - spl n : Nat) : Int) := by omega
        have hb1 : ((spl n : Nat) : Int) ≤ i := by omega
        have hb2 : ((spl n : Nat) : Int) ≤ n := by omega
        have HC := hide (by rw [← unhide HFF]; conv => lhs; unfold clD; rw [if_neg h1, if_neg hik] : F = (clD k leaf r (i - spl n) (n - spl n)).map (fun y => nodS k x y))
        have IH := fun (w' : World) (h' : RdD w' (.slice a1 n1 c1) r.reverse) => ih (i - spl n) (n - spl n) (.slice a1 n1 c1) w' (by omega) (by omega) h'
        generalize clD k leaf r (i - spl n) (n - spl n) = O at HC IH
        go_wp2_with (refine wpList_load_mid rfl 26 _ rfl w.heap.size 0 rfl (leaf.map u8) _ (range_row (unhide HG3)) Tryd.underlying26 rfl (unhide HSL) ?_)
        refine Calls.mono (IH _ (unhide HD3)) ?_
        rintro e w4 ⟨d4, rfl, g4, q4, k4⟩
        have HOK := hide (And.intro g4 q4)
        have HX4 := hide (k4.heap (unhide HX3) (by simp))
        have HZ4 := hide (k4.heap (unhide HZ3) (by simp))
        have HK4 := hide ((unhide HK3).trans k4 (by simp))
        clear k4 HX3 HD3 HG3 HZ3 IH g4 q4
        have hol := (unhide HOK).1.1
        have HSO := hide (by rw [brow_size, hol]; exact Tryd.size_dig : (Tryd.prog.info? 26).map (·.size) = some (brow d4).size)
        have HSOL := hide (by rw [List.length_map, hol]; exact Tryd.size_dig : (Tryd.prog.info? 26).map (·.size) = some (d4.map u8).length)
        have HNW := hide (setRow_heap (w4.alloc (.cells (zb 32) 26)) w4.heap.size (zb 32) (brow d4) 26 (0, 0) (heap_alloc_new _ _))
        have k5 := ((Kept.refl [] w4).alloc (.cells (zb 32) 26)).setRow (g := w4.heap.size) (Or.inr (Nat.le_refl _)) (brow d4)
        have HX5 := hide (k5.heap (unhide HX4) (by simp))
        have HZ5 := hide (k5.heap (unhide HZ4) (by simp))
        have HK5 := hide ((unhide HK4).trans k5 (by simp))
        clear k5 HX4 HZ4
        go_wp2_with (first
          | (rw [zb32]; refine wpList_store_row rfl 26 _ _ rfl w4.heap.size (brow d4) rfl rfl _ (zb 32) (heap_alloc_new _ _) (unhide HSO) (by rw [zb_size, brow_size, hol]) (brow_one _) ?_)
          | (refine wpList_load_mid rfl 26 _ rfl w4.heap.size 0 rfl (d4.map u8) _ (range_row (unhide HNW)) Tryd.underlying26 rfl (unhide HSOL) ?_)
          | (refine wpList_load_mid rfl 26 _ rfl w1.heap.size 0 rfl (x.map u8) _ (range_row (unhide HX5)) Tryd.underlying26 rfl (unhide HSXL) ?_))
        refine Calls.mono (refNode_any k x d4 _ hk (unhide HX) (unhide HOK).1) ?_
        rintro e w6 ⟨rfl, k6⟩
        have hfl := (nodS_dg k x d4).1
        have HND := hide (nodS_dg k x d4)
        have HEQ := hide (fun y (hy : F = some y) => by rw [unhide HC] at hy; obtain ⟨u, hu, rfl⟩ := Option.map_eq_some_iff.1 hy; rw [(unhide HOK).2 u hu] : ∀ y, F = some y → nodS k x d4 = y)
        have HIS := hide (by rw [unhide HC]; cases O <;> rfl : O.isSome = F.isSome)
        generalize nodS k x d4 = N at hfl HND HEQ
        have HZ6 := hide (k6.heap (unhide HZ5) (by simp))
        have HK6 := hide ((unhide HK5).trans k6 (by simp))
        clear k6 HX5 HZ5 HNW
        go_wp2_with (refine wpList_store_row rfl 26 _ _ rfl (w.heap.size + 1) (brow N) rfl rfl _ (zb 32) (unhide HZ6) (by rw [brow_size, hfl]; exact Tryd.size_dig) (by rw [zb_size, brow_size, hfl]) (brow_one _) ?_)
        refine bodyPost_ret (v := .tuple #[.agg (brow N), .bool O.isSome]) ?_ rfl ⟨N, by rw [unhide HIS], unhide HND, unhide HEQ, (unhide HK6).setRow (Or.inr (by omega)) _⟩
        exact results_cell_tmp rfl _ _ (w.heap.size + 1) _ (brow N) (0, 0) _ rfl (setRow_heap _ _ _ _ _ _ (unhide HZ6)) Tryd.underlying26 rfl (by rw [brow_size, hfl]; exact Tryd.size_dig) _ rfl
end Go.Proofs.YtajfaekfhohbmaaDoor
namespace Go.Proofs.YtajfaekfhohbmaaDoor
open Go.RowKit Go.BigFrame
set_option linter.unusedVariables false
set_option linter.unusedSimpArgs false

theorem RdD.nlP {w : World} {ao : Option Addr} {len cap : Nat} {ds : List (List Nat)} (h : RdD w (.slice ao len cap) ds) : ds.length = len := by
  obtain ⟨_, _, _, e, h1, _⟩ := h
  cases e; exact h1
theorem RdD.oneP {w : World} {g : Nat} {l : List Nat} {t : TypeId} {fr : Nat × Nat} (h : w.heap[g]? = some (.cells (brow l) t fr)) (hl : Dg l) : RdD w (.slice (some ⟨g, 0, none⟩) 1 1) [l] := by
  refine ⟨_, 1, 1, rfl, rfl, Nat.le_refl _, by omega, fun d hd => by simp at hd; subst hd; exact hl, fun _ => ⟨g, 0, rfl, fun i hi => ?_⟩⟩
  obtain rfl : i = 0 := by omega
  exact range_row h
/-- The cells of digests in a row. -/
def flatD (ds : List (List Nat)) : List Value := (ds.map fun d => d.map u8).flatten
theorem flatD_len {ds : List (List Nat)} (h : ∀ d ∈ ds, d.length = 32) : (flatD ds).length = ds.length * 32 := by
  induction ds with
  | nil => rfl
  | cons d r ih =>
    have := ih (fun x hx => h x (by simp [hx]))
    simp only [flatD, List.map_cons, List.flatten_cons, List.length_append, List.length_map, List.length_cons] at this ⊢
    rw [this, h d (by simp)]; omega
theorem flatD_app (a b : List (List Nat)) : flatD (a ++ b) = flatD a ++ flatD b := by simp [flatD]
theorem flatD_one (ds : List (List Nat)) : ∀ v ∈ flatD ds, v.oneCell' = true := by
  intro v hv
  simp only [flatD, List.mem_flatten, List.mem_map] at hv
  obtain ⟨l, ⟨d, _, rfl⟩, h⟩ := hv
  exact u8_oneCell d v h
theorem flatD_at {ds : List (List Nat)} (h : ∀ d ∈ ds, d.length = 32) : ∀ (i : Nat), i < ds.length → ∀ j, j < 32 → (flatD ds)[i * 32 + j]? = ((ds.getD i []).map u8)[j]? := by
  induction ds with
  | nil => intro i hi; simp at hi
  | cons d r ih =>
    intro i hi j hj
    have hd := h d (by simp)
    have e : flatD (d :: r) = d.map u8 ++ flatD r := by simp [flatD]
    rw [e]
    cases i with
    | zero =>
      rw [Nat.zero_mul, Nat.zero_add, List.getElem?_append_left (by simp [hd]; exact hj)]; rfl
    | succ i =>
      rw [List.getElem?_append_right (by simp [hd]; omega), List.length_map, hd, show (i + 1) * 32 + j - 32 = i * 32 + j by omega, ih (fun x hx => h x (by simp [hx])) i (by simpa using hi) j hj]
      rfl
theorem RdD.news {w : World} {b off n c : Nat} {ds : List (List Nat)} (h : RdD w (.slice (some ⟨b, off, none⟩) n c) ds) : ∀ j u, (flatD ds)[j]? = some u → w.cell? ((⟨b, off, none⟩ : Addr).add j) = some u := by
  obtain ⟨ao', len', cap', e, h1, h2, h3, h4, h5⟩ := h
  cases e
  intro j u hu
  have hl := flatD_len (fun d hd => (h4 d hd).1)
  have hj := (List.getElem?_eq_some_iff.1 hu).1
  have hp : 0 < n := by
    rcases Nat.eq_zero_or_pos n with h0 | h0
    · rw [hl, h1, h0] at hj; omega
    · exact h0
  obtain ⟨b', off', e, hc⟩ := h5 hp
  cases e
  have hi : j / 32 < ds.length := by omega
  have hq := flatD_at (fun d hd => (h4 d hd).1) (j / 32) hi (j % 32) (Nat.mod_lt _ (by decide))
  rw [show j / 32 * 32 + j % 32 = j by omega, hu] at hq
  have := hc (j / 32) (by omega) (j % 32) u hq.symm
  rw [Addr.add_mid]
  rw [show off + j / 32 * 32 + j % 32 = off + j by omega] at this
  exact this
theorem rdd_owns {w : World} {base : Nat} {v : Value} {ds : List (List Nat)} (h : w.ownsRow base 26 32 v ds.length (flatD ds)) (hd : ∀ d ∈ ds, Dg d) : RdD w v ds := by
  rcases h.2 with ⟨rfl, h0⟩ | ⟨g, cap, cur, rfl, _, hg, h1, h2, h3, h4⟩
  · exact ⟨none, 0, 0, rfl, h0, Nat.le_refl _, by omega, hd, fun h => by omega⟩
  · refine ⟨_, ds.length, cap, rfl, rfl, h1, by unfold maxLen at h2; omega, hd, fun hp => ⟨g, 0, rfl, fun i hi j v hv => ?_⟩⟩
    have hj : j < 32 := by
      have := (List.getElem?_eq_some_iff.1 hv).1
      rw [List.length_map, List.getD_eq_getElem?_getD, List.getElem?_eq_getElem hi] at this
      rw [← (hd ds[i] (List.getElem_mem hi)).1]; exact this
    have hq := flatD_at (fun d hd' => (hd d hd').1) i hi j hj
    rw [Nat.zero_add, cell_of_row _ _ _ _ _ _ hg, ← hv, ← hq, ← h4, List.getElem?_take_of_lt (by omega), Array.getElem?_toList]

theorem Tryd.infoD : (Tryd.prog.info? 26).map (fun i => (i.zero, i.size, i.bytes)) = some (some (.agg (zb 32)), 32, 32) := by kernel_rfl

theorem owns_form {w : World} {base : Nat} {e : TypeId} {size n : Nat} {v : Value} {xs : List Value} (h : w.ownsRow base e size v n xs) : ∃ ao cap, v = .slice ao n cap := by
  rcases h.2 with ⟨rfl, rfl⟩ | ⟨g, cap, cur, rfl, _⟩
  · exact ⟨none, 0, rfl⟩
  · exact ⟨_, cap, rfl⟩
theorem append_none {P : Program} {w : World} (base : Nat) (t ty e : TypeId) (i : TypeInfo) (size c : Nat) (ht : P.underlying t = some (.slice e)) (hi : P.info? e = some i)
    (v : Value) (n : Nat) (xs : List Value) (hown : w.ownsRow base e size v n xs) :
    (Builtin.append_ #[t, t] ty #[v, .slice none 0 c]).run P w = .ok v w := by
  rcases hown.2 with ⟨rfl, rfl⟩ | ⟨g, cap, cur, rfl, _, _, hnc, _⟩
  · simp [Builtin.append_, run_underlying ht, sizeOf, typeInfo, hi, Builtin.lenOf, Builtin.firstCells]
  · simp [Builtin.append_, run_underlying ht, sizeOf, typeInfo, hi, Builtin.lenOf, Builtin.firstCells, hnc, storeCells]

theorem appendD (w : World) (base : Nat) (v : Value) (ds ps : List (List Nat)) (ao : Option Addr) (n c : Nat) (h : w.ownsRow base 26 32 v ds.length (flatD ds)) (hr : RdD w (.slice ao n c) ps) (hl : ds.length + ps.length ≤ 1000000000000) (hb : base ≤ w.heap.size) :
    ∃ ao' cap' w1, (Builtin.append_ #[22, 22] 22 #[v, .slice ao n c]).run Tryd.prog w = .ok (.slice ao' (ds.length + ps.length) cap') w1 ∧
      w1.ownsRow base 26 32 (.slice ao' (ds.length + ps.length) cap') (ds ++ ps).length (flatD (ds ++ ps)) ∧ w.grownBy w1 v.ownBlock := by
  obtain ⟨i0, hi, hz0, hz1, hz2⟩ := info_parts Tryd.infoD
  have hn := hr.nlP
  have hdg : ∀ d ∈ ps, d.length = 32 := fun d hd => (hr.dg hd).1
  rw [flatD_app, List.length_append]
  by_cases h0 : n = 0
  · subst h0
    have hp : ps = [] := List.eq_nil_of_length_eq_zero hn
    subst hp
    cases ao with
    | none =>
      have hrun := append_none (P := Tryd.prog) (w := w) base 22 22 26 i0 32 c Tryd.underlying22 hi v ds.length (flatD ds) h
      obtain ⟨ao', cap', rfl⟩ := owns_form h
      exact ⟨ao', cap', w, hrun, by simpa [flatD] using h, World.grownBy.refl _ _⟩
    | some ad =>
      obtain ⟨v', w1, hrun, hown, hgrow, _, hat⟩ := run_append_own_at (P := Tryd.prog) w base 22 22 26 i0 (.agg (zb 32)) 32 32 Tryd.underlying22 hi hz0 hz1 hz2 (by show (zb 32).size = 32; exact zb_size 32) (by decide)
        v ds.length (flatD ds) h ad 0 c (flatD []) (by simp [flatD]) (by intro j u hj; simp [flatD] at hj) (flatD_one _) (by unfold maxLen; omega) (by omega) hb
      obtain ⟨ao', cap', rfl⟩ := owns_form hown
      exact ⟨ao', cap', w1, hrun, hown, hgrow⟩
  · have hr' := hr
    obtain ⟨ao1, n1, c1, he, h1, h2, h3, h4, h5⟩ := hr'
    cases he
    obtain ⟨b, off, rfl, hc⟩ := h5 (by omega)
    obtain ⟨v', w1, hrun, hown, hgrow, _, hat⟩ := run_append_own_at (P := Tryd.prog) w base 22 22 26 i0 (.agg (zb 32)) 32 32 Tryd.underlying22 hi hz0 hz1 hz2 (by show (zb 32).size = 32; exact zb_size 32) (by decide)
      v ds.length (flatD ds) h ⟨b, off, none⟩ n c (flatD ps) (by rw [flatD_len hdg, hn]) hr.news (flatD_one _) (by unfold maxLen; omega) (by omega) hb
    subst h1
    obtain ⟨ao', cap', rfl⟩ := owns_form hown
    exact ⟨ao', cap', w1, hrun, hown, hgrow⟩

theorem wpList_appendD {ops : Array Oper} {rest : List Oper} {o : Oper} {a : Act} {Q : Exit → Act → World → Prop} (hgd : o.guard = none) (s x : Operand)
    (ho : o.op = .call { callee := .builtin .append, args := #[s, x], argTypes := #[22, 22] }) (hty : o.type = 22)
    (w : World) (base : Nat) (v : Value) (ds ps : List (List Nat)) (ao : Option Addr) (n c : Nat) (h : w.ownsRow base 26 32 v ds.length (flatD ds)) (hr : RdD w (.slice ao n c) ps) (hl : ds.length + ps.length ≤ 1000000000000) (hb : base ≤ w.heap.size)
    (hs : a.eval s = v) (hx : a.eval x = .slice ao n c)
    (hK : ∀ ao' cap' w1, Hid (w1.ownsRow base 26 32 (.slice ao' (ds.length + ps.length) cap') (ds ++ ps).length (flatD (ds ++ ps))) → Hid (w.grownBy w1 v.ownBlock) →
      wpList Tryd.prog ops Q rest (a.put o.dst (.slice ao' (ds.length + ps.length) cap')) w1) :
    wpList Tryd.prog ops Q (o :: rest) a w := by
  obtain ⟨ao', cap', w1, hrun, h2, h3⟩ := appendD w base v ds ps ao n c h hr hl hb
  refine wpList_plain hgd fun K hK' => ?_
  unfold Oper.wp execOp
  simp only [ho, hty, resolve, invoke, builtin, Sem.run_bind, Sem.run_pure, Result.andThen_ok, List.map_toArray, List.map_cons, List.map_nil, hs, hx, hrun]
  exact hK' _ _ (hK ao' cap' w1 h2 h3)

end Go.Proofs.YtajfaekfhohbmaaDoor
namespace Go.Proofs.YtajfaekfhohbmaaDoor
open Go.RowKit Go.BigFrame
set_option linter.unusedVariables false
set_option linter.unusedSimpArgs false

end Go.Proofs.YtajfaekfhohbmaaDoor
namespace Go.Proofs.YtajfaekfhohbmaaDoor
open Go.RowKit Go.BigFrame
set_option linter.unusedVariables false
set_option linter.unusedSimpArgs false

theorem own_lit1 (w : World) (l : List Nat) (hl : l.length = 32) : (w.alloc (.cells (brow l) 26)).ownsRow w.heap.size 26 32 (.slice (some ⟨w.heap.size, 0, none⟩) 1 1) ([l] : List (List Nat)).length (flatD [l]) := by
  have h := World.ownsRow_lit (base := w.heap.size) (e := 26) (size := 32) w (brow l) 1 (Nat.le_refl _) (by unfold maxLen; omega) (by rw [brow_size, hl])
  have e : (brow l).toList = flatD [l] := by simp [flatD, brow]
  rw [e] at h
  exact h

set_option maxRecDepth 100000 in
set_option maxHeartbeats 2000000 in
theorem docRootOf_any (z : Int) (leaf : List Nat) (i n : Nat) (pv : Value) (p : List (List Nat)) (w : World) (hz : -9223372036854775808 ≤ z ∧ z ≤ 9223372036854775807) (hl : Dg leaf) (hi : i < 18446744073709551616) (hn : n < 18446744073709551616) (hp : RdD w pv p) (hpl : p.length ≤ 1048576) :
    Calls Tryd.prog 47 #[.int .i64 z, .agg (brow leaf), .int .u64 i, .int .u64 n, pv] w fun e w' => e = .returned (.tuple #[.agg (brow (rootD z leaf i n p)), .int .i64 (rootE z leaf i n p)]) ∧ Kept [] w w' := by
  have HP := hide hp
  obtain ⟨ao, len, cap, rfl, h1, h2, h3, h4, h5⟩ := hp
  clear h4 h5
  subst h1
  have HL := hide hl
  have hll := hl.1
  have hDl : (rootD z leaf i n p).length = 32 := (rootD_dg hl).1
  obtain ⟨D, hD⟩ : ∃ D, rootD z leaf i n p = D := ⟨_, rfl⟩
  obtain ⟨E, hE⟩ : ∃ E, rootE z leaf i n p = E := ⟨_, rfl⟩
  have HD := hide hD
  have HE := hide hE
  rw [hD] at hDl
  rw [hD, hE]
  clear hD hE
  go_enter Tryd.func47, Tryd.ntmps47
  have HGL := hide (((Kept.refl [] (w.alloc (.cells (brow leaf) 26))).alloc (.cells (zb 32) 26)).heap (heap_alloc_new w (.cells (brow leaf) 26)) (by simp))
  have HGZ := hide (alloc_at w (.cells (brow leaf) 26) (.cells (zb 32) 26))
  have HK0 := hide (((Kept.refl [] w).alloc (.cells (brow leaf) 26)).alloc (.cells (zb 32) 26))
  obtain ⟨W0, hW0⟩ : ∃ W0, (w.alloc (.cells (brow leaf) 26)).alloc (.cells (zb 32) 26) = W0 := ⟨_, rfl⟩
  have hsz : w.heap.size + 1 + 1 = W0.heap.size := by rw [← hW0]; simp
  have HLIT := hide (by have := own_lit1 W0 leaf hll; rwa [← hsz, ← hW0] at this : (((w.alloc (.cells (brow leaf) 26)).alloc (.cells (zb 32) 26)).alloc (.cells (brow leaf) 26)).ownsRow (w.heap.size + 1 + 1) 26 32 (.slice (some ⟨w.heap.size + 1 + 1, 0, none⟩) 1 1) ([leaf] : List (List Nat)).length (flatD [leaf]))
  clear hW0 hsz W0
  have k0 := (Kept.refl [] ((w.alloc (.cells (brow leaf) 26)).alloc (.cells (zb 32) 26))).alloc (.cells (brow leaf) 26)
  have HK00 := hide k0
  have HP0 := hide ((unhide HP).old ((unhide HK0).trans k0 (by simp)))
  clear k0
  go_wp2_with (first
    | (refine wpList_load_mid rfl 26 _ rfl w.heap.size 0 rfl (leaf.map u8) _ (range_row (unhide HGL)) Tryd.underlying26 rfl (by rw [List.length_map, hll]; exact Tryd.size_dig) ?_)
    | (at_builtin; rw [zb32, one_dig leaf hll]; refine wpList_appendD rfl (.tmp 17) (.tmp 18) rfl rfl _ (w.heap.size + 1 + 1) (.slice (some ⟨w.heap.size + 1 + 1, 0, none⟩) 1 1) [leaf] p ao p.length cap (by exact unhide HLIT) (by exact unhide HP0) (by simp; omega) (by simp) rfl rfl ?_; intro ao1 cap1 w1 HO1 HG1; have HKG := hide ((unhide HK00).grown (unhide HG1) (by intro k hk; right; simp [Value.ownBlock] at hk; subst hk; simp)); clear HG1))
  have HR1 := hide (rdd_owns (unhide HO1) (fun d hd => by rcases List.mem_append.1 hd with h | h; simp at h; subst h; exact unhide HL; exact (unhide HP).dg h))
  have HK1' := hide ((unhide HK0).trans (unhide HKG) (by simp))
  have HL1' := hide ((unhide HKG).heap (unhide HGL) (by simp))
  have HZ1' := hide ((unhide HKG).heap (unhide HGZ) (by simp))
  clear HGL HGZ HO1 HKG HLIT HK00 HP0
  refine Calls.mono (refCheck_any z _ ([leaf] ++ p) _ hz (unhide HR1)) ?_
  rintro e w2 ⟨rfl, k2⟩
  have HK1 := hide ((unhide HK1').trans k2 (by simp))
  have HL1 := hide (k2.heap (unhide HL1') (by simp))
  have HZ1 := hide (k2.heap (unhide HZ1') (by simp))
  clear k2 HK1' HL1' HZ1' HR1
  obtain ⟨f, hf⟩ : ∃ f, formedE z ([leaf] ++ p) = f := ⟨_, rfl⟩
  have HF := hide (show formedE z (leaf :: p) = f from hf)
  rw [hf]
  clear hf
  by_cases hf0 : f = 0
  · subst hf0
    obtain ⟨hw, hff⟩ := formedE_zero (unhide HF)
    by_cases hr : n ≤ i
    · have hr' : (n : Int) ≤ i := by omega
      have HC := hide (by rw [← unhide HE, ← unhide HD]; exact rootE_r (unhide HF) hr : E = 4 ∧ D = zD)
      go_wp2_with (rw [zb32]; refine wpList_store_row rfl 26 _ _ rfl (w.heap.size + 1) (zb 32) rfl rfl _ (zb 32) (unhide HZ1) (by rw [zb_size]; exact Tryd.size_dig) rfl (brow_one _) ?_)
      rw [(unhide HC).1, (unhide HC).2]
      refine bodyPost_ret (v := .tuple #[.agg (zb 32), .int .i64 4]) ?_ rfl ⟨rfl, (unhide HK1).setRow (Or.inr (by omega)) _⟩
      exact results_cell_tmp rfl _ _ (w.heap.size + 1) _ (zb 32) (0, 0) _ rfl (setRow_heap _ _ _ _ _ _ (unhide HZ1)) Tryd.underlying26 rfl (by rw [zb_size]; exact Tryd.size_dig) _ rfl
    · have hr' : ¬ (n : Int) ≤ i := by omega
      have hwd : 1 ≤ z ∧ z ≤ 32 := by simpa [widthB] using hw
      obtain ⟨k, rfl⟩ : ∃ k : Nat, z = k := ⟨z.toNat, by omega⟩
      have HC := hide (by rw [← unhide HE, ← unhide HD]; exact rootE_c (unhide HF) hr : E = opE (clD k leaf p.reverse i n) ∧ D = opD (clD k leaf p.reverse i n))
      go_wp2_with (refine wpList_load_mid rfl 26 _ rfl w.heap.size 0 rfl (leaf.map u8) _ (range_row (unhide HL1)) Tryd.underlying26 rfl (by rw [List.length_map, hll]; exact Tryd.size_dig) ?_)
      refine Calls.mono (rpath_any k leaf ⟨by omega, by omega⟩ (unhide HL) p.reverse i n _ _ (by omega) hn (by rw [List.reverse_reverse]; exact (unhide HP).old (unhide HK1))) ?_
      rintro e w3 ⟨d3, rfl, g3, q3, k3⟩
      generalize clD k leaf p.reverse i n = O at HC q3
      have HQ := hide q3
      have HD3 := hide g3
      have hol := g3.1
      have HZ3 := hide (k3.heap (unhide HZ1) (by simp))
      have HK3 := hide ((unhide HK1).trans k3 (by simp))
      clear g3 q3 k3 HZ1 HL1
      have HSO := hide (by rw [brow_size, hol]; exact Tryd.size_dig : (Tryd.prog.info? 26).map (·.size) = some (brow d3).size)
      have HSOL := hide (by rw [List.length_map, hol]; exact Tryd.size_dig : (Tryd.prog.info? 26).map (·.size) = some (d3.map u8).length)
      have HNW := hide (setRow_heap (w3.alloc (.cells (zb 32) 26)) w3.heap.size (zb 32) (brow d3) 26 (0, 0) (heap_alloc_new _ _))
      have k5 := ((Kept.refl [] w3).alloc (.cells (zb 32) 26)).setRow (g := w3.heap.size) (Or.inr (Nat.le_refl _)) (brow d3)
      have HZ5 := hide (k5.heap (unhide HZ3) (by simp))
      have HK5 := hide ((unhide HK3).trans k5 (by simp))
      clear k5 HZ3
      cases O with
      | some d0 =>
        have HQ2 := hide (unhide HQ d0 rfl)
        have HE2 := hide (by rw [(unhide HC).1]; rfl : E = 0)
        have HD2 := hide (by rw [(unhide HC).2, unhide HQ2]; rfl : D = d3)
        go_wp2_with (first
          | (rw [zb32]; refine wpList_store_row rfl 26 _ _ rfl w3.heap.size (brow d3) rfl rfl _ (zb 32) (heap_alloc_new _ _) (unhide HSO) (by rw [zb_size, brow_size, hol]) (brow_one _) ?_)
          | (refine wpList_load_mid rfl 26 _ rfl w3.heap.size 0 rfl (d3.map u8) _ (range_row (unhide HNW)) Tryd.underlying26 rfl (unhide HSOL) ?_)
          | (refine wpList_store_row rfl 26 _ _ rfl (w.heap.size + 1) (brow d3) rfl rfl _ (zb 32) (unhide HZ5) (unhide HSO) (by rw [zb_size, brow_size, hol]) (brow_one _) ?_))
        rw [unhide HE2, unhide HD2]
        refine bodyPost_ret (v := .tuple #[.agg (brow d3), .int .i64 0]) ?_ rfl ⟨rfl, (unhide HK5).setRow (Or.inr (by omega)) _⟩
        exact results_cell_tmp rfl _ _ (w.heap.size + 1) _ (brow d3) (0, 0) _ rfl (setRow_heap _ _ _ _ _ _ (unhide HZ5)) Tryd.underlying26 rfl (unhide HSO) _ rfl
      | none =>
        have HE2 := hide (by rw [(unhide HC).1]; rfl : E = 10)
        have HD2 := hide (by rw [(unhide HC).2]; rfl : D = zD)
        go_wp2_with (first
          | (rw [zb32]; refine wpList_store_row rfl 26 _ _ rfl w3.heap.size (brow d3) rfl rfl _ (zb 32) (heap_alloc_new _ _) (unhide HSO) (by rw [zb_size, brow_size, hol]) (brow_one _) ?_)
          | (rw [zb32]; refine wpList_store_row rfl 26 _ _ rfl (w.heap.size + 1) (zb 32) rfl rfl _ (zb 32) (unhide HZ5) (by rw [zb_size]; exact Tryd.size_dig) rfl (brow_one _) ?_))
        rw [unhide HE2, unhide HD2]
        refine bodyPost_ret (v := .tuple #[.agg (zb 32), .int .i64 10]) ?_ rfl ⟨rfl, (unhide HK5).setRow (Or.inr (by omega)) _⟩
        exact results_cell_tmp rfl _ _ (w.heap.size + 1) _ (zb 32) (0, 0) _ rfl (setRow_heap _ _ _ _ _ _ (unhide HZ5)) Tryd.underlying26 rfl (by rw [zb_size]; exact Tryd.size_dig) _ rfl
  · have hb : ((f : Int) != 0) = true := by simp; omega
    have hb2 : ((f : Int) == 0) = false := by simp; omega
    have HC := hide (by rw [← unhide HE, ← unhide HD, ← unhide HF]; exact rootE_f (by rw [unhide HF]; exact hf0) : E = f ∧ D = zD)
    go_wp2_with (rw [zb32]; refine wpList_store_row rfl 26 _ _ rfl (w.heap.size + 1) (zb 32) rfl rfl _ (zb 32) (unhide HZ1) (by rw [zb_size]; exact Tryd.size_dig) rfl (brow_one _) ?_)
    rw [(unhide HC).1, (unhide HC).2]
    refine bodyPost_ret (v := .tuple #[.agg (zb 32), .int .i64 f]) ?_ rfl ⟨rfl, (unhide HK1).setRow (Or.inr (by omega)) _⟩
    exact results_cell_tmp rfl _ _ (w.heap.size + 1) _ (zb 32) (0, 0) _ rfl (setRow_heap _ _ _ _ _ _ (unhide HZ1)) Tryd.underlying26 rfl (by rw [zb_size]; exact Tryd.size_dig) _ rfl
end Go.Proofs.YtajfaekfhohbmaaDoor
namespace Go.Proofs.YtajfaekfhohbmaaDoor
open Go.RowKit Go.BigFrame
set_option linter.unusedVariables false
set_option linter.unusedSimpArgs false

def prE (b : Bool) : Nat := if b then 0 else 10

set_option maxRecDepth 100000 in
set_option maxHeartbeats 1000000 in
theorem proven_any (b : Bool) (w : World) :
    Calls Tryd.prog 73 #[.bool b] w fun e w' => e = .returned (.int .i64 (prE b)) ∧ w' = w := by
  go_enter Tryd.func73, Tryd.ntmps73
  cases b with
  | true =>
    go_wp2
    go_ret
    exact ⟨rfl, rfl⟩
  | false =>
    go_wp2
    go_ret
    exact ⟨rfl, rfl⟩

set_option maxRecDepth 100000 in
set_option maxHeartbeats 2000000 in
theorem inclusion_any (z : Int) (leaf : List Nat) (i n : Nat) (pv : Value) (p : List (List Nat)) (root : List Nat) (w : World) (hz : -9223372036854775808 ≤ z ∧ z ≤ 9223372036854775807) (hl : Dg leaf) (hr : Dg root) (hi : i < 18446744073709551616) (hn : n < 18446744073709551616) (hp : RdD w pv p) (hT : Tabs w) :
    Calls Tryd.prog 48 #[.int .i64 z, .agg (brow leaf), .int .u64 i, .int .u64 n, pv, .agg (brow root)] w fun e w' => e = .returned (.int .i64 (incE z leaf i n p root)) ∧ Kept [] w w' := by
  have HP := hide hp
  obtain ⟨ao, len, cap, rfl, h1, h2, h3, h4, h5⟩ := hp
  clear h4 h5
  have HT := hide hT
  have HL := hide hl
  have HR := hide hr
  have hll := hl.1
  have hrl := hr.1
  have hlb := hl.2
  have hrb := hr.2
  clear hT
  obtain ⟨E, hE⟩ : ∃ E, incE z leaf i n p root = E := ⟨_, rfl⟩
  have HE := hide hE
  rw [hE]
  clear hE
  go_enter Tryd.func48, Tryd.ntmps48
  have HGL := hide (((Kept.refl [] (w.alloc (.cells (brow leaf) 26))).alloc (.cells (brow root) 26)).heap (heap_alloc_new w (.cells (brow leaf) 26)) (by simp))
  have HGR := hide (alloc_at w (.cells (brow leaf) 26) (.cells (brow root) 26))
  have HK0 := hide (((Kept.refl [] w).alloc (.cells (brow leaf) 26)).alloc (.cells (brow root) 26))
  have HSL := hide (by rw [List.length_map, hll]; exact Tryd.size_dig : (Tryd.prog.info? 26).map (·.size) = some (leaf.map u8).length)
  have HSM := hide (by rw [List.length_map, hrl]; exact Tryd.size_dig : (Tryd.prog.info? 26).map (·.size) = some (root.map u8).length)
  have hfs : ∀ A : Array Value, (List.foldl (fun cs x => cs.setIfInBounds x.snd x.fst) A (List.map u8 leaf).zipIdx).size = A.size := fun A => fold_size _ A 0
  go_wp2_with (first
    | (refine wpList_load_mid rfl 26 _ rfl w.heap.size 0 rfl (leaf.map u8) _ (range_row (unhide HGL)) Tryd.underlying26 rfl (unhide HSL) ?_)
    | (refine wpList_load_mid rfl 26 _ rfl (w.heap.size + 1) 0 rfl (root.map u8) _ (range_row (unhide HGR)) Tryd.underlying26 rfl (unhide HSM) ?_))
  rw [zb64, two_digs leaf root hll hrl]
  clear hfs
  have k0 := (Kept.refl [] ((w.alloc (.cells (brow leaf) 26)).alloc (.cells (brow root) 26))).alloc (.cells (leaf.map u8 ++ root.map u8).toArray 26)
  refine Calls.mono (mformed_any z _ _ p [leaf, root] _ hz ((unhide HP).old ((unhide HK0).trans k0 (by simp))) (RdD.two (alloc3_at _ _ _ _) hll hrl hlb hrb)) ?_
  rintro e w1 ⟨rfl, k1⟩
  have k01 := k0.trans k1 (by simp)
  have HK1 := hide ((unhide HK0).trans k01 (by simp))
  have HL1 := hide (k01.heap (unhide HGL) (by simp))
  have HR1 := hide (k01.heap (unhide HGR) (by simp))
  clear k0 k1 k01 HGL HGR
  obtain ⟨f, hf⟩ : ∃ f, formedE z ([leaf, root] ++ p) = f := ⟨_, rfl⟩
  have HF := hide (show formedE z (leaf :: root :: p) = f from hf)
  rw [hf]
  clear hf
  by_cases hf0 : f = 0
  · subst hf0
    go_wp2_with (refine wpList_load_mid rfl 26 _ rfl w.heap.size 0 rfl (leaf.map u8) _ (range_row (unhide HL1)) Tryd.underlying26 rfl (unhide HSL) ?_)
    refine Calls.mono (rootOf_any z leaf i n _ p _ hz (unhide HL) hi hn ((unhide HP).old (unhide HK1)) ((unhide HT).k (unhide HK1))) ?_
    rintro e w2 ⟨rfl, k2⟩
    have HDG := hide (rootD_dg (z := z) (i := i) (n := n) (p := p) (unhide HL))
    obtain ⟨D, hD⟩ : ∃ D, rootD z leaf i n p = D := ⟨_, rfl⟩
    obtain ⟨G, hG⟩ : ∃ G, rootE z leaf i n p = G := ⟨_, rfl⟩
    rw [hD] at HDG
    have hdl := (unhide HDG).1
    have HD := hide hD
    have HG := hide hG
    rw [hD, hG]
    clear hD hG
    have HR2 := hide (k2.heap (unhide HR1) (by simp))
    have HK2 := hide ((unhide HK1).trans k2 (by simp))
    clear k2 HL1 HR1
    have HSO := hide (by rw [brow_size, hdl]; exact Tryd.size_dig : (Tryd.prog.info? 26).map (·.size) = some (brow D).size)
    have HSOL := hide (by rw [List.length_map, hdl]; exact Tryd.size_dig : (Tryd.prog.info? 26).map (·.size) = some (D.map u8).length)
    have HNW := hide (setRow_heap (w2.alloc (.cells (zb 32) 26)) w2.heap.size (zb 32) (brow D) 26 (0, 0) (heap_alloc_new _ _))
    have k5 := ((Kept.refl [] w2).alloc (.cells (zb 32) 26)).setRow (g := w2.heap.size) (Or.inr (Nat.le_refl _)) (brow D)
    have HR5 := hide (k5.heap (unhide HR2) (by simp))
    have HK5 := hide ((unhide HK2).trans k5 (by simp))
    clear k5 HR2
    by_cases hg0 : G = 0
    · subst hg0
      have hqd : ∀ W, (Op.equalIn 10000 26 (.agg (D.map u8).toArray) (.agg (root.map u8).toArray)).run Tryd.prog W = .ok (decide (D = root)) W := fun W => dig_eq W D root hdl hrl
      go_wp2_with (first
        | (rw [zb32]; refine wpList_store_row rfl 26 _ _ rfl w2.heap.size (brow D) rfl rfl _ (zb 32) (heap_alloc_new _ _) (unhide HSO) (by rw [zb_size, brow_size, hdl]) (brow_one _) ?_)
        | (refine wpList_load_mid rfl 26 _ rfl w2.heap.size 0 rfl (D.map u8) _ (range_row (unhide HNW)) Tryd.underlying26 rfl (unhide HSOL) ?_)
        | (refine wpList_load_mid rfl 26 _ rfl (w.heap.size + 1) 0 rfl (root.map u8) _ (range_row (unhide HR5)) Tryd.underlying26 rfl (unhide HSM) ?_))
      have HC := hide (by rw [← unhide HE]; unfold incE; rw [if_neg (by rw [unhide HF]; simp), if_neg (by rw [unhide HG]; simp), unhide HD] : E = if D = root then 0 else 10)
      refine Calls.mono (proven_any (decide (D = root)) _) ?_
      rintro e w6 ⟨rfl, rfl⟩
      have HC2 := hide (by rw [unhide HC]; by_cases h9 : D = root; rw [if_pos h9]; simp [prE, h9]; rw [if_neg h9]; simp [prE, h9] : E = prE (decide (D = root)))
      generalize decide (D = root) = B at HC2
      generalize prE B = R at HC2
      go_wp2
      go_ret
      exact ⟨by rw [unhide HC2]; rfl, unhide HK5⟩
    · have hb : ((G : Int) != 0) = true := by simp; omega
      have HC := hide (by rw [← unhide HE]; unfold incE; rw [if_neg (by rw [unhide HF]; simp), if_pos (by rw [unhide HG]; exact hg0), unhide HG] : E = G)
      go_wp2_with (rw [zb32]; refine wpList_store_row rfl 26 _ _ rfl w2.heap.size (brow D) rfl rfl _ (zb 32) (heap_alloc_new _ _) (unhide HSO) (by rw [zb_size, brow_size, hdl]) (brow_one _) ?_)
      go_ret
      exact ⟨by rw [unhide HC]; rfl, unhide HK5⟩
  · have hb : ((f : Int) != 0) = true := by simp; omega
    have HC := hide (by rw [← unhide HE, ← unhide HF]; unfold incE; rw [if_pos (by rw [unhide HF]; exact hf0)] : E = f)
    go_wp2
    go_ret
    exact ⟨by rw [unhide HC]; rfl, unhide HK1⟩
end Go.Proofs.YtajfaekfhohbmaaDoor
namespace Go.Proofs.YtajfaekfhohbmaaDoor
open Go.RowKit Go.BigFrame
set_option linter.unusedVariables false
set_option linter.unusedSimpArgs false

theorem Tryd.size_roots : (Tryd.prog.info? 89).map (·.size) = some 64 := by kernel_rfl
/-- A pair of roots. -/
def pw (d : List Nat × List Nat) : Array Value := (d.1.map u8 ++ d.2.map u8).toArray
def opP (o : Option (List Nat × List Nat)) : List Nat × List Nat := o.getD (zD, zD)
def opF (o : Option (List Nat × List Nat)) : Nat := if o.isSome then 0 else 10

theorem foldl_set (vs : List Value) : ∀ (pre mid post : List Value) (k : Nat), mid.length = vs.length → ((vs.zipIdx k).foldl (fun cs (p : Value × Nat) => cs.setIfInBounds (pre.length + p.2 - k) p.1) (pre ++ (mid ++ post)).toArray) = (pre ++ (vs ++ post)).toArray := by
  induction vs with
  | nil => intro pre mid post k h; have : mid = [] := List.eq_nil_of_length_eq_zero (by simpa using h); subst this; rfl
  | cons v r ih =>
    intro pre mid post k h
    obtain ⟨x, mid, rfl⟩ : ∃ x q, mid = x :: q := by cases mid with | nil => simp at h | cons x q => exact ⟨x, q, rfl⟩
    rw [List.zipIdx_cons, List.foldl_cons]
    have e1 : (pre ++ (x :: mid ++ post)).toArray.setIfInBounds (pre.length + k - k) v = ((pre ++ [v]) ++ (mid ++ post)).toArray := by rw [Nat.add_sub_cancel]; simp
    have h2 := ih (pre ++ [v]) mid post (k + 1) (by simpa using h)
    simp only [e1]
    rw [List.length_append, List.length_cons, List.length_nil] at h2
    have e2 : (fun (cs : Array Value) (p : Value × Nat) => cs.setIfInBounds (pre.length + p.2 - k) p.1) = fun cs p => cs.setIfInBounds (pre.length + (0 + 1) + p.2 - (k + 1)) p.1 := by funext cs p; congr 1; omega
    rw [e2, h2]; simp
theorem pw_size {d : List Nat × List Nat} (h1 : d.1.length = 32) (h2 : d.2.length = 32) : (pw d).size = 64 := by simp [pw, h1, h2]
theorem pw_one (d : List Nat × List Nat) : (pw d).all (·.oneCell') = true := by
  rw [Array.all_eq_true_iff_forall_mem]
  intro v hv
  simp [pw] at hv
  rcases hv with ⟨x, _, rfl⟩ | ⟨x, _, rfl⟩ <;> rfl
set_option maxRecDepth 100000 in
theorem Tryd.size_pz : (Tryd.prog.info? 89).map (·.size) = some (pw (zD, zD)).size := by rw [pw_size rfl rfl]; exact Tryd.size_roots
set_option maxRecDepth 100000 in
theorem built_pair (l m : List Nat) (hl : l.length = 32) (hm : m.length = 32) : Tryd.prog.built 89 [(0, .agg (l.map u8).toArray), (1, .agg (m.map u8).toArray)] = some (pw (l, m)) := by
  have hi : (Tryd.prog.info? 89).isSome = true := by kernel_rfl
  obtain ⟨it, hit⟩ := Option.isSome_iff_exists.1 hi
  have hz : (Tryd.prog.info? 89).bind (·.zero) = some (.agg (pw (zD, zD))) := by kernel_rfl
  rw [hit, Option.bind_some] at hz
  have hpl : ∀ fs, Tryd.prog.underlying 89 = some (.struct fs) → fs.toList.mapM (fun f => (Tryd.prog.info? f.type).map fun i => (f.offset, i.size)) = some [(0, 32), (32, 32)] := by
    intro fs hfs
    rw [Tryd.underlying89] at hfs
    injection hfs with hfs
    injection hfs with hfs
    subst hfs
    kernel_rfl
  have hex : ∃ fs, Tryd.prog.underlying 89 = some (.struct fs) := ⟨_, Tryd.underlying89⟩
  obtain ⟨fs, hfs⟩ := hex
  have hpl := hpl fs hfs
  unfold Program.built
  rw [hit, hfs]
  simp only [hz, hpl]
  have z1 : zD.length = 32 := zD_dg.1
  have f2 := foldl_set (l.map u8) [] (zD.map u8) (zD.map u8) 0 (by simp [hl, z1])
  have f3 := foldl_set (m.map u8) (l.map u8) (zD.map u8) [] 0 (by simp [hm, z1])
  simp [Instr.fill, Value.cells, pw, hl, hm, z1] at f2 f3 ⊢
  rw [f2]
  exact ⟨by simp [hl, z1], f3⟩

set_option maxRecDepth 100000 in
set_option maxHeartbeats 1000000 in
theorem lowest_any (old : List Nat) (b : Bool) (pv : Value) (p : List (List Nat)) (w : World) (ho : Dg old) (hp : RdD w pv p) (z : Int) (n : Nat) :
    Calls Tryd.prog 77 #[.agg (brow old), .bool b, pv] w fun e w' => e = .returned (.tuple #[.agg (pw (opP (twD z old p.reverse n n b))), .int .i64 (opF (twD z old p.reverse n n b))]) ∧ Kept [] w w' := by
  have HP := hide hp
  obtain ⟨ao, len, cap, rfl, h1, h2, h3, h4, h5⟩ := hp
  subst h1
  have H5 := hide h5
  clear h4 h5
  have HO := hide ho
  have hol := ho.1
  obtain ⟨F, hF⟩ : ∃ F, twD z old p.reverse n n b = F := ⟨_, rfl⟩
  have HF := hide hF
  rw [hF]
  clear hF
  go_enter Tryd.func77, Tryd.ntmps77
  have HGL := hide (((Kept.refl [] (w.alloc (.cells (brow old) 26))).alloc (.cells (zb 64) 89)).heap (heap_alloc_new w (.cells (brow old) 26)) (by simp))
  have HGZ := hide (alloc_at w (.cells (brow old) 26) (.cells (zb 64) 89))
  have HK0 := hide (((Kept.refl [] w).alloc (.cells (brow old) 26)).alloc (.cells (zb 64) 89))
  match p, HP, H5, HF, h2 with
  | [], HP, H5, HF, h2 =>
    clear H5
    simp only [List.length_nil] at *
    cases b with
    | true =>
      have HC := hide (by rw [← unhide HF]; simp [twD] : F = some (old, old))
      go_wp2_with (first
        | (refine wpList_load_mid rfl 26 _ rfl w.heap.size 0 rfl (old.map u8) _ (range_row (unhide HGL)) Tryd.underlying26 rfl (by rw [List.length_map, hol]; exact Tryd.size_dig) ?_)
        | (refine wpList_build_as rfl 89 _ rfl (pw (old, old)) (by simp only [List.map_toArray, List.map_cons, List.map_nil]; exact built_pair old old hol hol) ?_)
        | (rw [zb64]; refine wpList_store_row rfl 89 _ _ rfl (w.heap.size + 1) (pw (old, old)) rfl rfl _ (zb 64) (unhide HGZ) (by rw [pw_size hol hol]; exact Tryd.size_roots) (by rw [zb_size, pw_size hol hol]) (pw_one _) ?_))
      rw [unhide HC]
      refine bodyPost_ret (v := .tuple #[.agg (pw (old, old)), .int .i64 0]) ?_ rfl ⟨rfl, (unhide HK0).setRow (Or.inr (by omega)) _⟩
      exact results_cell_tmp rfl _ _ (w.heap.size + 1) _ (pw (old, old)) (0, 0) _ rfl (setRow_heap _ _ _ _ _ _ (unhide HGZ)) Tryd.underlying89 rfl (by rw [pw_size hol hol]; exact Tryd.size_roots) _ rfl
    | false =>
      have HC := hide (by rw [← unhide HF]; simp [twD] : F = none)
      go_wp2_with (first
        | (refine wpList_build_as rfl 89 #[] rfl (pw (zD, zD)) (by kernel_rfl) ?_)
        | (rw [zb64]; refine wpList_store_row rfl 89 _ _ rfl (w.heap.size + 1) (pw (zD, zD)) rfl rfl _ (zb 64) (unhide HGZ) Tryd.size_pz (by rw [zb_size, pw_size rfl rfl]) (pw_one _) ?_))
      rw [unhide HC]
      refine bodyPost_ret (v := .tuple #[.agg (pw (zD, zD)), .int .i64 10]) ?_ rfl ⟨rfl, (unhide HK0).setRow (Or.inr (by omega)) _⟩
      exact results_cell_tmp rfl _ _ (w.heap.size + 1) _ (pw (zD, zD)) (0, 0) _ rfl (setRow_heap _ _ _ _ _ _ (unhide HGZ)) Tryd.underlying89 rfl Tryd.size_pz _ rfl
  | [x], HP, H5, HF, h2 =>
    have hx := (unhide HP).dg (show x ∈ [x] by simp)
    have hxl := hx.1
    obtain ⟨b0, off, rfl, hc⟩ := unhide H5 (by simp)
    have HRG := hide (range_kept (by simpa using hc 0 (by simp) : w.rangeAt b0 off (x.map u8)) (unhide HK0) (by simp))
    clear H5 hc hx
    simp only [List.length_cons, List.length_nil, Nat.zero_add] at *
    cases b with
    | true =>
      have HC := hide (by rw [← unhide HF]; simp [twD] : F = none)
      go_wp2_with (first
        | (refine wpList_build_as rfl 89 #[] rfl (pw (zD, zD)) (by kernel_rfl) ?_)
        | (rw [zb64]; refine wpList_store_row rfl 89 _ _ rfl (w.heap.size + 1) (pw (zD, zD)) rfl rfl _ (zb 64) (unhide HGZ) Tryd.size_pz (by rw [zb_size, pw_size rfl rfl]) (pw_one _) ?_))
      rw [unhide HC]
      refine bodyPost_ret (v := .tuple #[.agg (pw (zD, zD)), .int .i64 10]) ?_ rfl ⟨rfl, (unhide HK0).setRow (Or.inr (by omega)) _⟩
      exact results_cell_tmp rfl _ _ (w.heap.size + 1) _ (pw (zD, zD)) (0, 0) _ rfl (setRow_heap _ _ _ _ _ _ (unhide HGZ)) Tryd.underlying89 rfl Tryd.size_pz _ rfl
    | false =>
      have HC := hide (by rw [← unhide HF]; simp [twD] : F = some (x, x))
      go_wp2_with fail
      rw [zb64]
      obtain ⟨W, hW⟩ : ∃ W, (w.alloc (.cells (brow old) 26)).alloc (.cells (zb 64) 89) = W := ⟨_, rfl⟩
      rw [hW] at HGZ HK0 HRG ⊢
      have HSX := hide (by rw [List.length_map, hxl]; exact Tryd.size_dig : (Tryd.prog.info? 26).map (·.size) = some (x.map u8).length)
      refine wp_quiet_tail 6 (by kernel_rfl) (by kernel_rfl) ?_
      simp only [List.take_succ_cons, List.take_zero, List.drop_succ_cons, List.drop_zero]
      repeat (go_big_quiet_step (fail))
      refine wpQuiet_mid rfl 26 _ rfl b0 off rfl (x.map u8) _ (fun w' hw' => by obtain ⟨n, rfl⟩ := hw'; exact unhide HRG) Tryd.underlying26 rfl (unhide HSX) ?_
      simp only [Act.put, List.setIfInBounds_toArray, List.set_cons_succ, List.set_cons_zero]
      repeat (go_big_quiet_step (fail))
      refine wpQuiet_mid rfl 26 _ rfl b0 off rfl (x.map u8) _ (fun w' hw' => by obtain ⟨n, rfl⟩ := hw'; exact unhide HRG) Tryd.underlying26 rfl (unhide HSX) ?_
      simp only [Act.put, List.setIfInBounds_toArray, List.set_cons_succ, List.set_cons_zero]
      refine wpQuiet_nil ?_
      rintro _ ⟨n1, rfl⟩
      go_wp2_with (first
        | (refine wpList_build_as rfl 89 _ rfl (pw (x, x)) (by simp only [List.map_toArray, List.map_cons, List.map_nil]; exact built_pair x x hxl hxl) ?_)
        | (refine wpList_store_row rfl 89 _ _ rfl (w.heap.size + 1) (pw (x, x)) rfl rfl _ (zb 64) (unhide HGZ) (by rw [pw_size hxl hxl]; exact Tryd.size_roots) (by rw [zb_size, pw_size hxl hxl]) (pw_one _) ?_))
      rw [unhide HC]
      refine bodyPost_ret (v := .tuple #[.agg (pw (x, x)), .int .i64 0]) ?_ rfl ⟨rfl, ((unhide HK0).drewN n1).setRow (Or.inr (by omega)) _⟩
      exact results_cell_tmp rfl _ ((W.drewN n1).setRow (w.heap.size + 1) (pw (x, x))) (w.heap.size + 1) _ (pw (x, x)) (0, 0) _ (by rfl) (setRow_heap (W.drewN n1) _ _ _ _ _ (unhide HGZ)) Tryd.underlying89 rfl (by rw [pw_size hxl hxl]; exact Tryd.size_roots) _ rfl
  | x :: y :: r, HP, H5, HF, h2 =>
    clear H5
    have hn0 : (((r.length + 1 + 1 : Nat) : Int) == 0) = false := by simp; omega
    have hn1 : (((r.length + 1 + 1 : Nat) : Int) == 1) = false := by simp; omega
    simp only [List.length_cons] at *
    have HC := hide (by
      rw [← unhide HF]
      obtain ⟨u, v, hu⟩ : ∃ u v, (x :: y :: r).reverse = u :: v := by
        cases h9 : (x :: y :: r).reverse with
        | nil => simp at h9
        | cons u v => exact ⟨u, v, rfl⟩
      have hv : v ≠ [] := by
        intro h
        have := congrArg List.length hu
        rw [h] at this
        simp at this
      rw [hu]
      simp [twD, hv] : F = none)
    cases b with
    | true =>
      go_wp2_with (first
        | (refine wpList_build_as rfl 89 #[] rfl (pw (zD, zD)) (by kernel_rfl) ?_)
        | (rw [zb64]; refine wpList_store_row rfl 89 _ _ rfl (w.heap.size + 1) (pw (zD, zD)) rfl rfl _ (zb 64) (unhide HGZ) Tryd.size_pz (by rw [zb_size, pw_size rfl rfl]) (pw_one _) ?_))
      rw [unhide HC]
      refine bodyPost_ret (v := .tuple #[.agg (pw (zD, zD)), .int .i64 10]) ?_ rfl ⟨rfl, (unhide HK0).setRow (Or.inr (by omega)) _⟩
      exact results_cell_tmp rfl _ _ (w.heap.size + 1) _ (pw (zD, zD)) (0, 0) _ rfl (setRow_heap _ _ _ _ _ _ (unhide HGZ)) Tryd.underlying89 rfl Tryd.size_pz _ rfl
    | false =>
      go_wp2_with (first
        | (refine wpList_build_as rfl 89 #[] rfl (pw (zD, zD)) (by kernel_rfl) ?_)
        | (rw [zb64]; refine wpList_store_row rfl 89 _ _ rfl (w.heap.size + 1) (pw (zD, zD)) rfl rfl _ (zb 64) (unhide HGZ) Tryd.size_pz (by rw [zb_size, pw_size rfl rfl]) (pw_one _) ?_))
      rw [unhide HC]
      refine bodyPost_ret (v := .tuple #[.agg (pw (zD, zD)), .int .i64 10]) ?_ rfl ⟨rfl, (unhide HK0).setRow (Or.inr (by omega)) _⟩
      exact results_cell_tmp rfl _ _ (w.heap.size + 1) _ (pw (zD, zD)) (0, 0) _ rfl (setRow_heap _ _ _ _ _ _ (unhide HGZ)) Tryd.underlying89 rfl Tryd.size_pz _ rfl
end Go.Proofs.YtajfaekfhohbmaaDoor
