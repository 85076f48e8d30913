import Derived.Test.YtckkalmhekfnhabGreatDoorCR
namespace Go.Proofs.YtckkalmhekfnhabGreatDoor
open Go.RowKit
set_option linter.unusedVariables false
set_option linter.unusedSimpArgs false

set_option maxRecDepth 100000 in
set_option maxHeartbeats 1000000 in
theorem rupdate_any (c : Nat) (v : Value) (p : List Nat) (w : World) (hc : c < 4294967296) (h : Rd w v p) :
    Calls Tryz.prog 144 #[.int .u32 c, v] w fun e w' => e = .returned (.int .u32 (upd c p)) ∧ w' = w := by
  obtain ⟨ao, len, cap, rfl, rfl, h2, ⟨h3, h3'⟩, h4, h5, h6⟩ := h
  have hcm := compl c hc
  have H5 := hide h5
  have H6 := hide h6
  clear h4 h5 h6
  have hcl : c ^^^ 4294967295 < 4294967296 := xlt hc (by decide)
  go_enter Tryz.func144, Tryz.ntmps144
  go_wp2_with fail
  refine (turned_any _ _ hcl).mono ?_
  rintro e w1 ⟨rfl, rfl⟩
  go_wp2
  go_loopw [5, 14] (fun t5 t14 wr => ∃ k y : Nat, k ≤ p.length ∧ y < 4294967296 ∧ t5 = .int .u32 (rv 32 y) ∧ t14 = .int .i64 k ∧ Hid (y = reg (c ^^^ 4294967295) (p.take k)) ∧ wr = w1) (fun _ t _ => p.length - (intOf t).toNat)
  case atStart => exact ⟨0, c ^^^ 4294967295, by omega, hcl, rfl, rfl, hide (by simp [reg]), rfl⟩
  case round =>
    obtain ⟨k, y, hk, hy, rfl, rfl, Hy, rfl⟩ := hrel
    by_cases hlt : k < p.length
    · have hlt' : (k : Int) < p.length := by omega
      obtain ⟨b, o, rfl, hcell⟩ := unhide H6 (by omega)
      have ck := hcell k hlt
      have hb := getD_byte (unhide H5) k
      have HN := hide (show reg (c ^^^ 4294967295) (p.take (k + 1)) = zz (y ^^^ p.getD k 0) by
        rw [List.take_succ_eq_append_getElem hlt, reg_append, ← unhide Hy, List.getD_eq_getElem?_getD, List.getElem?_eq_getElem hlt]; rfl)
      clear hcell
      generalize p.getD k 0 = z at ck hb HN
      have hxl : y ^^^ z < 4294967296 := xlt hy (by omega)
      go_wp2
      go_loopw [5, 8] (fun t5 t8 wq => ∃ i x : Nat, i ≤ 8 ∧ x < 4294967296 ∧ t5 = .int .u32 (rv 32 x) ∧ t8 = .int .i64 i ∧ Hid (x = it tn i (y ^^^ z) ^^^ z / 2 ^ i) ∧ wq = wr) (fun _ t _ => 8 - (intOf t).toNat)
      case atStart => exact ⟨0, y, by omega, hy, rfl, rfl, hide (by simp only [it, Nat.pow_zero, Nat.div_one]; rw [Nat.xor_assoc, Nat.xor_self, Nat.xor_zero]), rfl⟩
      case round =>
        obtain ⟨i, x, hi, hx, rfl, rfl, Hx, rfl⟩ := hrel
        by_cases hi8 : i < 8
        · have hi8' : (i : Int) < 8 := by omega
          have hd : (z : Int) / 2 ^ i = ((z / 2 ^ i : Nat) : Int) := by simp
          have hzl : z / 2 ^ i ≤ z := Nat.div_le_self _ _
          have HS := hide (by have := tn_step y z i; rw [← unhide Hx] at this; exact this : it tn (i + 1) (y ^^^ z) ^^^ z / 2 ^ (i + 1) = tn (x ^^^ z / 2 ^ i % 2))
          generalize z / 2 ^ i = d at hd hzl HS
          have hrx : rv 32 x < 4294967296 := rv_lt 32 x
          rcases Nat.mod_two_eq_zero_or_one d with h2 | h2
          · have hb2 : ((d : Int) % 2 == 1) = false := by simp; omega
            have HS' := hide (by have := unhide HS; rw [h2, Nat.xor_zero] at this; exact this)
            go_wp2_with fail
            refine (double_any _ _ hrx).mono ?_
            rintro x1 w2 ⟨rfl, rfl⟩
            rw [← rv_tn hx]
            go_wp2
            go_roundw
            case rel => exact ⟨i + 1, tn x, by omega, tn_lt hx, rfl, by go_num, hide (unhide HS').symm, trivial⟩
            case measure => simp [intOf]; omega
          · have hb2 : ((d : Int) % 2 == 1) = true := by simp; omega
            have hx1 : x ^^^ 1 < 4294967296 := xlt hx (by decide)
            have hbx : bits .xor .u32 (rv 32 x : Int) 2147483648 = (rv 32 (x ^^^ 1) : Nat) := by
              rw [show (2147483648 : Int) = ((2147483648 : Nat) : Int) from rfl, u32_xor_nat _ _ hrx (by decide), rv_xor]; rfl
            have HS' := hide (by have := unhide HS; rw [h2] at this; exact this)
            have hrx1 : rv 32 (x ^^^ 1) < 4294967296 := rv_lt 32 _
            go_wp2_with fail
            refine (double_any _ _ hrx1).mono ?_
            rintro x1 w2 ⟨rfl, rfl⟩
            rw [← rv_tn hx1]
            go_wp2
            go_roundw
            case rel => exact ⟨i + 1, tn (x ^^^ 1), by omega, tn_lt hx1, rfl, by go_num, hide (unhide HS').symm, trivial⟩
            case measure => simp [intOf]; omega
        · have hi8' : ¬ (i : Int) < 8 := by omega
          have hie : i = 8 := by omega
          subst hie
          go_wp2
          go_roundw
          case rel => exact ⟨k + 1, x, by omega, hx, rfl, by go_num, hide (by rw [unhide HN, unhide Hx, show z / 2 ^ 8 = 0 by omega, Nat.xor_zero]; rfl), trivial⟩
          case measure => simp [intOf]; omega
    · have hlt' : ¬ (k : Int) < p.length := by omega
      have hk8 : k = p.length := by omega
      subst hk8
      have hrr := rv_rv hy
      have hcy := compl y hy
      go_wp2_with fail
      refine (turned_any _ _ (rv_lt 32 y)).mono ?_
      rintro e w1 ⟨rfl, rfl⟩
      rw [hrr]
      go_wp2
      go_ret
      exact ⟨by rw [unhide Hy, List.take_length]; rfl, rfl⟩

set_option maxRecDepth 100000 in
set_option maxHeartbeats 1000000 in
theorem rsum_any (v : Value) (p : List Nat) (w : World) (h : Rd w v p) :
    Calls Tryz.prog 120 #[v] w fun e w' => e = .returned (.int .u32 (upd 0 p)) ∧ w' = w := by
  have H := hide h
  clear h
  go_enter Tryz.func120, Tryz.ntmps120
  go_wp2_with fail
  refine (rupdate_any 0 v p _ (by decide) (unhide H)).mono ?_
  rintro e w1 ⟨rfl, rfl⟩
  go_wp2
  go_ret
  exact ⟨rfl, rfl⟩

end Go.Proofs.YtckkalmhekfnhabGreatDoor
