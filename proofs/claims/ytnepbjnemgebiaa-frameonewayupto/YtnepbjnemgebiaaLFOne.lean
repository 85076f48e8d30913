import Derived.Test.YtnepbjnemgebiaaFCase
namespace Go.Proofs.Ytnepbjnemgebiaa
open Go.RowKit Go.BigFrame
set_option linter.unusedVariables false
set_option linter.unusedSimpArgs false

set_option maxRecDepth 100000 in
set_option maxHeartbeats 2000000 in
theorem frameOneWay_walk (v : Value) (p : List Nat) (z : Int) (w : World) (h : Rd w v p) (hl : p.length ≤ 140737488355328) (hz : -9223372036854775808 ≤ z ∧ z ≤ 9223372036854775807) :
    Calls Try.prog 8 #[v, .int .i64 z] w fun e w' => e = .returned (.bool true) ∧ Below w.heap.size w w' := by
  have H := hide h
  obtain ⟨a1, n1, c1, rfl, hn1, hc1, ⟨hc2, hc2'⟩, _, _, hcell⟩ := id h
  subst hn1
  have HCELL := hide hcell
  clear h hcell
  go_enter Try.func8, Try.ntmps8
  go_wp2_with fail
  refine Calls.mono (fawake_any _) ?_
  rintro e w1 ⟨rfl, k1⟩
  have HK1 := hide k1
  clear k1
  go_wp2_with fail
  refine Calls.mono (twin_any _ p w1 ((unhide H).old (unhide HK1) (by simp))) ?_
  rintro e w2 ⟨rfl, k2, g2⟩
  have HK2 := hide ((unhide HK1).trans k2 (by simp))
  have HR2 := hide (rd_fresh g2 (unhide H).byte (unhide H).len)
  clear k2 g2
  go_wp2_with fail
  refine Calls.mono (next_any _ p z w2 (unhide HR2) hz) ?_
  rintro e w3 ⟨v3, rfl, n3, k3⟩
  have HN3 := hide n3.1
  have HK3 := hide ((unhide HK2).trans k3 (by simp))
  have HP3 := hide ((unhide H).old (unhide HK3) (by simp))
  obtain ⟨a3, m3, c3, rfl, hm3, _⟩ := id n3.1
  clear k3 n3
  have HR3 := hide ((unhide HN3).old ((Kept.refl [] w3).alloc (.cells #[.int .u64 ((nextF p z).pl : Int), .slice a3 m3 c3] 34)) (by simp))
  rcases nextF_cases p z (unhide H).byte with ⟨hz1, hN⟩ | ⟨hz1, hN⟩ | ⟨n, pl, pay, hzn, hN, b1, b2, b3, b4, b5, b6, _⟩
  · rw [hN] at HN3 HR3 ⊢
    subst hz1
    simp only at HN3 HR3 ⊢
    go_wp2_with fail
    refine Calls.mono (empty_any 0 _ [] _ (unhide HR3)) ?_
    rintro e w4 ⟨rfl, k4⟩
    have HK4 := hide (((unhide HK3).alloc _).trans k4 (by simp))
    clear k4
    rw [show (decide (0 = 0) && decide (([] : List Nat) = [])) = true by decide]
    go_wp2
    go_ret
    exact ⟨rfl, (unhide HK4).below (Nat.le_refl _) (by simp)⟩
  · rw [hN] at HN3 HR3 ⊢
    have hz1' : (z == (p.length : Int)) = false := by rw [beq_eq_false_iff_ne]; exact hz1
    simp only at HN3 HR3 ⊢
    go_wp2_with fail
    refine Calls.mono (empty_any 0 _ [] _ (unhide HR3)) ?_
    rintro e w4 ⟨rfl, k4⟩
    have HK4 := hide (((unhide HK3).alloc _).trans k4 (by simp))
    clear k4
    rw [show (decide (0 = 0) && decide (([] : List Nat) = [])) = true by decide]
    go_wp2
    go_ret
    exact ⟨rfl, (unhide HK4).below (Nat.le_refl _) (by simp)⟩
  · rw [hN] at HN3 HR3 ⊢
    subst hzn
    have q1 : ¬ ((n + 18 + pay.length : Nat) : Int) ≤ n := by omega
    have q2 : ¬ (p.length : Int) < ((n + 18 + pay.length : Nat) : Int) := by omega
    obtain ⟨N, hNN⟩ : ∃ N, n + 18 + pay.length = N := ⟨_, rfl⟩
    rw [hNN] at q1 q2 ⊢
    have HNN := hide hNN
    clear hNN hN
    obtain ⟨b, off, rfl, _⟩ := unhide HCELL (by omega)
    simp only at HN3 HR3 ⊢
    go_wp2_with fail
    refine Calls.mono (made_any pl _ pay _ (unhide HR3) b1) ?_
    rintro e w4 ⟨v4, rfl, n4, k4⟩
    rw [encE_good b2 b3]
    rw [encB_good b2 b3, ← b6] at n4
    have HN4 := hide n4.1
    have HK4 := hide (((unhide HK3).alloc _).trans k4 (by simp))
    have HP4 := hide (((unhide H).cutN n N (by omega) (by omega)).old (unhide HK4) (by simp))
    clear k4 n4
    have hnN : (n : Int) ≤ N := by omega
    have hNp : (N : Int) ≤ p.length := by omega
    go_wp2_with fail
    refine Calls.mono (same_any _ _ _ _ _ (unhide HN4) (unhide HP4)) ?_
    rintro e w5 ⟨rfl, m5, rfl⟩
    rw [show N - n = 18 + pay.length by have := unhide HNN; omega, decide_eq_true rfl]
    go_wp2
    go_ret
    exact ⟨rfl, ((unhide HK4).drewN _).below (Nat.le_refl _) (by simp)⟩
end Go.Proofs.Ytnepbjnemgebiaa
