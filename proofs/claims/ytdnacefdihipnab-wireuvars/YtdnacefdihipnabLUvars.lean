import Derived.Test.YtdnacefdihipnabAwake
namespace Go.Proofs.Ytdnacefdihipnab
open Go.RowKit
set_option linter.unusedVariables false
set_option linter.unusedSimpArgs false

theorem div_succ (v m : Nat) : v / 128 ^ (m + 1) * 128 + v / 128 ^ m % 128 = v / 128 ^ m := by
  rw [Nat.pow_succ, ← Nat.div_div_eq_div_mul]; omega
theorem div_zero_len {v k n : Nat} (hn : (uv v).length = n) (hk : 1 ≤ k) (hkn : k ≤ n) (h : v / 128 ^ k = 0) : k = n := by
  rcases Nat.lt_or_ge k n with h1 | h1
  · exfalso
    have h2 := uv_last v (by omega)
    have h3 : v / 128 ^ ((uv v).length - 1) ≤ v / 128 ^ k := Nat.div_le_div_left (Nat.pow_le_pow_right (by omega) (by omega)) (Nat.pow_pos (by omega))
    omega
  · omega

set_option maxRecDepth 100000 in
set_option maxHeartbeats 4000000 in
theorem wireUvars_walk (x : Nat) (w : World) (hx : x < 18446744073709551616) :
    Calls Try.prog 3 #[.int .u64 x] w fun e w' => e = .returned (.bool true) ∧ Below w.heap.size w w' := by
  have hx' : (x : Int) ≤ 18446744073709551615 := by omega
  go_enter Try.func3, Try.ntmps3
  go_wp2_with fail
  refine (awake_any _).mono ?_
  rintro e w1 ⟨rfl, k1⟩
  have HK1 := hide k1
  clear k1
  go_wp2_with fail
  refine (wuvar_any w1.heap.size _ [] x _ (by exact WrAt.new w1) hx (by simp)).mono ?_
  rintro e w2 ⟨rfl, v2, h2, k2⟩
  have hlen := uv_len x hx
  have hpos := uv_pos x
  have hby := uv_byte x
  have hat := uv_at x
  have hcount : ∀ k, 0 < x / 128 ^ k → k < (uv x).length := fun k h => uv_count h
  have hz : ∀ k, 1 ≤ k → k ≤ (uv x).length → x / 128 ^ k = 0 → k = (uv x).length := fun k => div_zero_len rfl
  have hlast := uv_last x
  have hend := uv_end x
  obtain ⟨L, hL⟩ : ∃ L, uv x = L := ⟨_, rfl⟩
  simp only [List.nil_append] at h2
  rw [hL] at h2 hlen hpos hby hat hcount hz hlast hend
  have HW2 := hide h2
  have HK2 := hide (k2.keptNil ((unhide HK1).alloc _) ((unhide HK1).size) (by simp [Value.ownBlock]))
  clear h2 k2 hL HK1
  have Hby := hide hby
  have Hat := hide hat
  have Hcount := hide hcount
  have Hz := hide hz
  have Hlast := hide hlast
  have Hend := hide hend
  clear hby hat hcount hz hlast hend
  go_wp2_with fail
  refine (wbytes_any w1.heap.size v2 L _ (unhide HW2) (by omega)).mono ?_
  rintro e w3 ⟨rfl, k3, h3⟩
  have HK3 := hide ((unhide HK2).trans k3 (by simp))
  have hcell : ∀ j, j < L.length → w3.cell? ⟨w2.heap.size, j, none⟩ = some (u8 (L.getD j 0)) := fun j hj => by
    rw [cell_of_row w3 _ j _ 5 (0, 0) h3]; simp [List.getD_eq_getElem?_getD, List.getElem?_eq_getElem hj]
  have Hcell := hide hcell
  clear k3 h3 HW2 HK2 hcell
  obtain ⟨g, hg⟩ : ∃ g, w2.heap.size = g := ⟨_, rfl⟩
  rw [hg] at Hcell ⊢
  obtain ⟨n, hn⟩ : ∃ n, L.length = n := ⟨_, rfl⟩
  rw [hn] at Hcell Hat Hcount Hz Hlast Hend hlen hpos ⊢
  clear hg hn
  obtain ⟨m, hm⟩ : ∃ m, n = m + 1 := ⟨n - 1, by omega⟩
  subst hm
  have m9 : (m : Int) ≤ 9 := by omega
  have m0 : (0 : Int) ≤ m := by omega
  obtain ⟨c, hc, hct⟩ : ∃ c : Nat, w3.cell? ⟨g, m, none⟩ = some (u8 c) ∧ (0 < m → ((c : Int) == 0) = false) := by
    refine ⟨_, unhide Hcell m (by omega), fun h => ?_⟩
    have h1 := unhide Hat m (by omega)
    have h2 := unhide Hlast (by omega)
    have h3 := unhide Hend
    rw [if_neg (by omega)] at h1
    have h4 : x / 128 ^ m < 128 := by rw [Nat.pow_succ, ← Nat.div_div_eq_div_mul] at h3; omega
    simp only [Nat.add_sub_cancel] at h2
    simp only [beq_eq_false_iff_ne]; omega
  have Hct := hide hct
  clear hct
  have t1 : ¬ (m : Int) + 1 < 1 := by omega
  have t10 : ¬ (10 : Int) < (m : Int) + 1 := by omega
  have T := (show (0 < m ∧ ((c : Int) == 0) = false ∧ (1 : Int) < (m : Int) + 1) ∨ (m = 0 ∧ ¬ (1 : Int) < (m : Int) + 1) from by
    rcases Nat.eq_zero_or_pos m with h | h
    · exact .inr ⟨h, by omega⟩
    · exact .inl ⟨h, unhide Hct h, by omega⟩)
  clear Hct Hlast
  rcases T with ⟨hm0, hct, hm1⟩ | ⟨hm0, hm1⟩
  all_goals
    clear hm0
    go_wp2_with fail
    go_loopw [5, 6] (fun t5 t6 wr => ∃ k y : Nat, 1 ≤ k ∧ k ≤ m + 1 ∧ y ≤ x ∧ t5 = .int .i64 k ∧ t6 = .int .u64 y ∧ Hid (y = x / 128 ^ k) ∧ wr = w3) (fun _ t _ => (intOf t).toNat)
    case atStart => exact ⟨1, x / 128, by omega, by omega, by omega, rfl, by simp, hide (by simp), rfl⟩
    case round =>
      obtain ⟨k, y, hk1, hkm, hyx, rfl, rfl, Hy, rfl⟩ := hrel
      by_cases hy0 : 0 < y
      · have hk2 : k < m + 1 := unhide Hcount k (by rw [← unhide Hy]; exact hy0)
        have hy0' : (0 : Int) < y := by omega
        go_wp2
        go_roundw
        case rel => exact ⟨k + 1, y / 128, by omega, by omega, by omega, by go_num, by simp, hide (by rw [unhide Hy, Nat.div_div_eq_div_mul, Nat.pow_succ]), trivial⟩
        case measure => simp [intOf]; omega
      · have hkn : k = m + 1 := unhide Hz k hk1 hkm (by rw [← unhide Hy]; omega)
        have hy0' : ¬ (0 : Int) < y := by omega
        subst hkn
        clear Hy Hcount Hz hk1 hkm
        go_wp2_with fail
        go_loopw [7, 8] (fun t7 t8 wq => ∃ j s : Nat, j ≤ m + 1 ∧ s ≤ x ∧ t8 = .int .i64 ((j : Int) - 1) ∧ t7 = .int .u64 s ∧ Hid (s = x / 128 ^ j) ∧ wq = wr) (fun _ t _ => (intOf t + 1).toNat)
        case atStart => exact ⟨m + 1, 0, by omega, by omega, by simp, rfl, hide (unhide Hend).symm, rfl⟩
        case round =>
          obtain ⟨j, s, hj, hsx, rfl, rfl, Hs, rfl⟩ := hrel
          by_cases hj0 : j = 0
          · subst hj0
            have hsx' : s = x := by have := unhide Hs; simpa using this
            subst hsx'
            go_wp2
            go_ret
            exact ⟨rfl, (unhide HK3).below (Nat.le_refl _) (by simp)⟩
          · obtain ⟨q, rfl⟩ : ∃ q, j = q + 1 := ⟨j - 1, by omega⟩
            have e1 : (((q + 1 : Nat) : Int) - 1) = (q : Int) := by omega
            rw [e1]
            have hck := unhide Hcell q hj
            have hav := unhide Hat q hj
            have hcb : L.getD q 0 < 256 := by rw [hav]; have := Nat.mod_lt (x / 128 ^ q) (show 128 > 0 by decide); split <;> omega
            have hds := div_succ x q
            have hle : x / 128 ^ q ≤ x := Nat.div_le_self _ _
            rw [← unhide Hs] at hds
            have hsum : s * 128 + L.getD q 0 % 128 = x / 128 ^ q := by
              rw [hav]; split <;> omega
            have hq0 : (0 : Int) ≤ q := by omega
            have hqm : (q : Int) < (m : Int) + 1 := by omega
            have T2 := (show ((128 : Int) ≤ (L.getD q 0 : Nat) ∧ q < m) ∨ (¬ (128 : Int) ≤ (L.getD q 0 : Nat) ∧ ¬ q < m) from by
              rcases Nat.lt_or_ge q m with h | h
              · left; rw [if_pos (by omega)] at hav; omega
              · right; rw [if_neg (by omega)] at hav; have := Nat.mod_lt (x / 128 ^ q) (show 128 > 0 by decide); omega)
            obtain ⟨cq, hcq⟩ : ∃ cq, L.getD q 0 = cq := ⟨_, rfl⟩
            rw [hcq] at hck hcb hsum T2
            obtain ⟨s', hs'⟩ : ∃ s', x / 128 ^ q = s' := ⟨_, rfl⟩
            rw [hs'] at hsum hle
            have Hs' := hide hs'
            have b1 : (s : Int) * 128 + (cq : Int) % 128 ≤ 18446744073709551615 := by omega
            have b2 : (s : Int) * 128 ≤ 18446744073709551615 := by omega
            have Hsum := hide hsum
            clear hs' hcq hav hds hsum hj0 e1
            rcases T2 with ⟨hc1, hq1⟩ | ⟨hc1, hq1⟩
            all_goals
              go_wp2
              go_roundw
              case rel => exact ⟨q, s', by omega, by omega, rfl, by have := unhide Hsum; go_num, hide (unhide Hs').symm, trivial⟩
              case measure => simp [intOf]
end Go.Proofs.Ytdnacefdihipnab
