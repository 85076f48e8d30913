import Derived.Test.YtejchncdimcdbaaGreatDoorRe
namespace Go.Proofs.YtejchncdimcdbaaGreatDoor
open Go.RowKit
set_option linter.unusedVariables false
set_option linter.unusedSimpArgs false

/-- The number in groups of seven bits with which a list begins, and how many bytes it has (0: none). -/
def fuv : List Nat → Nat → Nat → Nat × Nat
  | [], _, _ => (0, 0)
  | c :: r, i, a => if i = 9 ∧ c ≠ 1 then (0, 0) else if 128 ≤ c then fuv r (i + 1) (a + c % 128 * 128 ^ i) else if c = 0 ∧ 0 < i then (0, 0) else (a + c % 128 * 128 ^ i, i + 1)
theorem drop_cons {p : List Nat} {k : Nat} (h : k < p.length) : p.drop k = p.getD k 0 :: p.drop (k + 1) := by
  rw [List.drop_eq_getElem_cons h, List.getD_eq_getElem?_getD, List.getElem?_eq_getElem h]; rfl
/-- The group's bits over those that were there. -/
theorem group_lt (k c : Nat) (hk : k ≤ 9) (h9 : k = 9 → c = 1) : c % 128 * 128 ^ k < 18446744073709551616 := by
  rcases Nat.lt_or_ge k 9 with h | h
  · have h1 : 128 ^ k ≤ 128 ^ 8 := Nat.pow_le_pow_right (by omega) (by omega)
    have h2 : c % 128 < 128 := Nat.mod_lt _ (by omega)
    calc c % 128 * 128 ^ k ≤ 127 * 128 ^ 8 := Nat.mul_le_mul (by omega) h1
      _ < 18446744073709551616 := by decide
  · have : k = 9 := by omega
    subst this; rw [h9 rfl]; decide
theorem group_or (k c a : Nat) (hk : k ≤ 9) (h9 : k = 9 → c = 1) (ha : a < 128 ^ k) : bits .or .u64 (a : Int) ((c % 128 * 128 ^ k : Nat) : Int) = ((a + c % 128 * 128 ^ k : Nat) : Int) := by
  have h1 := group_lt k c hk h9
  have h2 : 128 ^ k ≤ 128 ^ 9 := Nat.pow_le_pow_right (by omega) hk
  rw [u64_or_nat a _ (by have h3 : (128 : Nat) ^ 9 = 9223372036854775808 := (by decide); omega) h1, Nat.or_comm, nat_join (7 * k) _ a (by rw [Nat.pow_mul]; exact Nat.mul_mod_left _ _) (by rw [Nat.pow_mul]; exact ha), Nat.add_comm]
theorem group_val (k c a : Nat) (hk : k ≤ 9) (h9 : k = 9 → c = 1) (ha : a < 128 ^ k) : bits .or .u64 (a : Int) (IntKind.u64.wrap ((c : Int) % 128 * 2 ^ (7 * k))) = ((a + c % 128 * 128 ^ k : Nat) : Int) := by
  have e2 : ((c : Int) % 128) * 2 ^ (7 * k) = ((c % 128 * 128 ^ k : Nat) : Int) := by rw [Int.natCast_mul, Int.pow_mul]; simp
  have h1 := group_lt k c hk h9
  rw [IntKind.wrap_u64, e2, ← group_or k c a hk h9 ha]
  congr 1; omega
theorem group_next (k c a : Nat) (ha : a < 128 ^ k) : a + c % 128 * 128 ^ k < 128 ^ (k + 1) := by
  have h2 : c % 128 < 128 := Nat.mod_lt _ (by omega)
  have h3 : c % 128 * 128 ^ k ≤ 127 * 128 ^ k := Nat.mul_le_mul (by omega) (Nat.le_refl _)
  rw [Nat.pow_succ]; omega
set_option maxRecDepth 100000 in
set_option maxHeartbeats 1000000 in
theorem fuv_any (v : Value) (p : List Nat) (w : World) (hv : Rd w v p) :
    Calls Tryz.prog 243 #[v] w fun r w' => r = .returned (.tuple #[.int .u64 (fuv p 0 0).1, .int .i64 (fuv p 0 0).2]) ∧ w' = w := by
  obtain ⟨ao, len, cap, rfl, rfl, h2, ⟨h3, h3'⟩, h4, h5, h6⟩ := hv
  have H6 := hide h6
  clear h6 h4
  go_enter Tryz.func243, Tryz.ntmps243
  go_wp2_with fail
  go_loopw [4, 5, 6, 9] (fun t4 t5 t6 t9 wr => ∃ k a : Nat, k ≤ p.length ∧ k ≤ 9 ∧ t9 = .int .i64 k ∧ t4 = .int .u64 a ∧ Hid (a < 128 ^ k) ∧ Hid (fuv (p.drop k) k a = fuv p 0 0) ∧ wr = w) (fun _ _ _ i _ => p.length - (intOf i).toNat)
  case atStart => exact ⟨0, 0, Nat.zero_le _, Nat.zero_le _, rfl, rfl, hide (by decide), rfl, rfl⟩
  case round =>
    obtain ⟨k, a, hk, hk9, rfl, rfl, Ha, Hf, rfl⟩ := hrel
    by_cases hlt : k < p.length
    · obtain ⟨b, o, rfl, hc⟩ := unhide H6 (by omega)
      have hck := hc k hlt
      have hcb : p.getD k 0 < 256 := h5 _ (by rw [List.getD_eq_getElem?_getD, List.getElem?_eq_getElem hlt]; exact List.getElem_mem hlt)
      have hfk := unhide Hf
      rw [drop_cons hlt, fuv] at hfk
      obtain ⟨c, hcc⟩ : ∃ c, c = p.getD k 0 := ⟨_, rfl⟩
      rw [← hcc] at hck hfk hcb
      clear hc hcc h5
      by_cases h9 : k = 9 ∧ c ≠ 1
      · rw [if_pos h9] at hfk
        obtain ⟨rfl, hc1⟩ := h9
        have t1 : ((c : Int) != 1) = true := by rw [bne_iff_ne]; omega
        have HF := hide hfk
        clear hfk hc1
        go_wp2
        go_ret2
        exact ⟨by rw [← unhide HF]; rfl, rfl⟩
      · have h9' : k = 9 → c = 1 := by intro h; omega
        rw [if_neg h9] at hfk
        have hval := group_val k c a hk9 h9' (unhide Ha)
        have Hn := hide (group_next k c a (unhide Ha))
        obtain ⟨a', ha'⟩ : ∃ a', a' = a + c % 128 * 128 ^ k := ⟨_, rfl⟩
        rw [← ha'] at hval Hn hfk
        by_cases hbig : 128 ≤ c
        · rw [if_pos hbig] at hfk
          have HF := hide hfk
          have hk8 : k ≤ 8 := by omega
          have t9 : ((k : Int) == 9) = false := by simp; omega
          have tb : (128 : Int) ≤ c := by omega
          clear ha' hfk h9 h9'
          go_wp2
          go_roundw
          case rel => exact ⟨k + 1, a', by omega, by omega, by go_num, rfl, Hn, HF, trivial⟩
          case measure => simp [intOf]; omega
        · rw [if_neg hbig] at hfk
          have tb : (c : Int) < 128 := by omega
          by_cases hz : c = 0 ∧ 0 < k
          · rw [if_pos hz] at hfk
            have HF := hide hfk
            obtain ⟨rfl, hk0⟩ := hz
            have hk8 : k ≤ 8 := by omega
            have t9 : ((k : Int) == 9) = false := by simp; omega
            have tk : (0 : Int) < k := by omega
            clear ha' hfk h9 h9'
            go_wp2
            go_ret2
            exact ⟨by rw [← unhide HF]; rfl, rfl⟩
          · rw [if_neg hz] at hfk
            have HF := hide hfk
            clear ha' hfk
            by_cases hc0 : c = 0
            · have t9 : ((k : Int) == 9) = false := by simp; omega
              have t0 : ((c : Int) == 0) = true := by simp; omega
              have tk : ¬ (0 : Int) < k := by omega
              clear h9 h9' hz hc0
              go_wp2
              go_ret2
              exact ⟨by rw [← unhide HF]; simp, rfl⟩
            · have t0 : ((c : Int) == 0) = false := by simp; omega
              by_cases hk9' : k = 9
              · have t9 : ((k : Int) == 9) = true := by simp; omega
                have t1 : ((c : Int) != 1) = false := by have := h9' hk9'; simp; omega
                clear h9 h9' hz hk9'
                go_wp2
                go_ret2
                exact ⟨by rw [← unhide HF]; simp, rfl⟩
              · have t9 : ((k : Int) == 9) = false := by simp; omega
                clear h9 h9' hz
                go_wp2
                go_ret2
                exact ⟨by rw [← unhide HF]; simp, rfl⟩
    · have e : p.drop k = [] := List.drop_eq_nil_of_le (by omega)
      have HF := hide (by rw [← unhide Hf, e, fuv] : fuv p 0 0 = (0, 0))
      clear e
      go_wp2
      go_ret2
      exact ⟨by rw [unhide HF]; rfl, rfl⟩
end Go.Proofs.YtejchncdimcdbaaGreatDoor
