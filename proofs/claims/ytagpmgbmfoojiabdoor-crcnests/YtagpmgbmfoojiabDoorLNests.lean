import Derived.Test.YtagpmgbmfoojiabDoorCAw
namespace Go.Proofs.YtagpmgbmfoojiabDoor
open Go.RowKit
set_option linter.unusedVariables false
set_option linter.unusedSimpArgs false

set_option maxRecDepth 100000 in
set_option maxHeartbeats 2000000 in
theorem crcNests_neg (a b c : Nat) (m n k : Int) (w : World) (ha : a < 4294967296) (hb : b < 4294967296) (hc : c < 4294967296) (hm : -9223372036854775808 ≤ m ∧ m ≤ 9223372036854775807) (hn : -9223372036854775808 ≤ n ∧ n ≤ 9223372036854775807) (hT : Tab w)
    (hneg : (m < 0 ∧ m ≤ n ∧ k = m) ∨ (m < 0 ∧ ¬ m ≤ n ∧ k = n) ∨ (¬ m < 0 ∧ n < 0 ∧ ¬ m ≤ n ∧ k = n)) :
    Calls Tryd.prog 3 #[.int .u32 a, .int .u32 b, .int .u32 c, .int .i64 m, .int .i64 n] w fun e w' => e = .returned (.bool true) ∧ Below w.heap.size w w' := by
  have HT := hide hT
  have hkz : k.toNat = 0 := by omega
  have hk : -9223372036854775808 ≤ k ∧ k ≤ 9223372036854775807 := by omega
  have hx : bits .xor .u32 (a : Int) (b : Int) = ((a ^^^ b : Nat) : Int) := u32_xor_nat a b ha hb
  have HJ := hide (by rw [hkz]; rfl : joi a b k.toNat = a ^^^ b)
  clear hT hkz
  rcases hneg with ⟨h1, h2, rfl⟩ | ⟨h1, h2, rfl⟩ | ⟨h1, h3, h2, rfl⟩
  all_goals
    go_enter Tryd.func3, Tryd.ntmps3
    go_wp2_with fail
    refine (cawake_any w (unhide HT)).mono ?_
    rintro e w1 ⟨rfl, k1⟩
    have HK1 := hide k1
    clear k1
    go_wp2_with fail
    refine (cjoin_any a b _ w1 ha hb hk ((unhide HT).kept (unhide HK1))).mono ?_
    rintro e w2 ⟨rfl, k2⟩
    have HK2 := hide ((unhide HK1).trans k2 (by simp))
    clear k2
    rw [unhide HJ]
    go_wp2
    go_ret
    exact ⟨rfl, (unhide HK2).below (Nat.le_refl _) (by simp)⟩

set_option maxRecDepth 100000 in
set_option maxHeartbeats 2000000 in
theorem crcNests_walk (a b c : Nat) (m n : Int) (w : World) (ha : a < 4294967296) (hb : b < 4294967296) (hc : c < 4294967296) (hm : -9223372036854775808 ≤ m ∧ m ≤ 9223372036854775807) (hn : -9223372036854775808 ≤ n ∧ n ≤ 9223372036854775807) (hT : Tab w) :
    Calls Tryd.prog 3 #[.int .u32 a, .int .u32 b, .int .u32 c, .int .i64 m, .int .i64 n] w fun e w' => e = .returned (.bool true) ∧ Below w.heap.size w w' := by
  by_cases hneg : m < 0 ∨ n < 0
  · by_cases hmn : m ≤ n
    · exact crcNests_neg a b c m n m w ha hb hc hm hn hT (Or.inl ⟨by omega, hmn, rfl⟩)
    · by_cases h0 : m < 0
      · exact crcNests_neg a b c m n n w ha hb hc hm hn hT (Or.inr (Or.inl ⟨h0, hmn, rfl⟩))
      · exact crcNests_neg a b c m n n w ha hb hc hm hn hT (Or.inr (Or.inr ⟨h0, by omega, hmn, rfl⟩))
  · have h1 : ¬ m < 0 := by omega
    have h2 : ¬ n < 0 := by omega
    have HT := hide hT
    clear hT hneg
    by_cases hbig : 2305843009213693952 < m ∨ 2305843009213693952 < n
    · by_cases hb1 : 2305843009213693952 < m
      · go_enter Tryd.func3, Tryd.ntmps3
        go_wp2_with fail
        refine (cawake_any w (unhide HT)).mono ?_
        rintro e w1 ⟨rfl, k1⟩
        have HK1 := hide k1
        clear k1
        go_wp2
        go_ret
        exact ⟨rfl, (unhide HK1).below (Nat.le_refl _) (by simp)⟩
      · have hb2 : 2305843009213693952 < n := by omega
        clear hbig
        go_enter Tryd.func3, Tryd.ntmps3
        go_wp2_with fail
        refine (cawake_any w (unhide HT)).mono ?_
        rintro e w1 ⟨rfl, k1⟩
        have HK1 := hide k1
        clear k1
        go_wp2
        go_ret
        exact ⟨rfl, (unhide HK1).below (Nat.le_refl _) (by simp)⟩
    · have hb1 : ¬ 2305843009213693952 < m := by omega
      have hb2 : ¬ 2305843009213693952 < n := by omega
      clear hbig
      have hmn : -9223372036854775808 ≤ m + n ∧ m + n ≤ 9223372036854775807 := by omega
      have HJ := hide (by rw [joi_nest, show (m + n).toNat = m.toNat + n.toNat by omega] : joi (joi a b m.toNat) c n.toNat = joi a (joi b c n.toNat) (m + n).toNat)
      have l1 := joi_lt m.toNat ha hb
      have l2 := joi_lt n.toNat hb hc
      go_enter Tryd.func3, Tryd.ntmps3
      go_wp2_with fail
      refine (cawake_any w (unhide HT)).mono ?_
      rintro e w1 ⟨rfl, k1⟩
      have HK1 := hide k1
      clear k1
      go_wp2_with fail
      refine (cjoin_any a b m w1 ha hb hm ((unhide HT).kept (unhide HK1))).mono ?_
      rintro e w2 ⟨rfl, k2⟩
      have HK2 := hide ((unhide HK1).trans k2 (by simp))
      clear k2
      go_wp2_with fail
      refine (cjoin_any _ c n w2 l1 hc hn ((unhide HT).kept (unhide HK2))).mono ?_
      rintro e w3 ⟨rfl, k3⟩
      have HK3 := hide ((unhide HK2).trans k3 (by simp))
      clear k3
      go_wp2_with fail
      refine (cjoin_any b c n w3 hb hc hn ((unhide HT).kept (unhide HK3))).mono ?_
      rintro e w4 ⟨rfl, k4⟩
      have HK4 := hide ((unhide HK3).trans k4 (by simp))
      clear k4
      go_wp2_with fail
      refine (cjoin_any a _ (m + n) w4 ha l2 hmn ((unhide HT).kept (unhide HK4))).mono ?_
      rintro e w5 ⟨rfl, k5⟩
      have HK5 := hide ((unhide HK4).trans k5 (by simp))
      clear k5
      rw [unhide HJ]
      go_wp2
      go_ret
      exact ⟨rfl, (unhide HK5).below (Nat.le_refl _) (by simp)⟩
end Go.Proofs.YtagpmgbmfoojiabDoor
