import Derived.Test.YtejchncdimcdbaaGreatDoorCat
import Derived.Test.YtejchncdimcdbaaGreatDoorCrc
namespace Go.Proofs.YtejchncdimcdbaaGreatDoor
open Go.RowKit
set_option linter.unusedVariables false
set_option linter.unusedSimpArgs false

theorem getD_byte {bs : List Nat} (h : ∀ x ∈ bs, x < 256) (j : Nat) : bs.getD j 0 < 256 := by
  rw [List.getD_eq_getElem?_getD]
  rcases Nat.lt_or_ge j bs.length with hj | hj
  · rw [List.getElem?_eq_getElem hj]; exact h _ (List.getElem_mem hj)
  · rw [List.getElem?_eq_none hj]; decide
theorem compl (c : Nat) (hc : c < 4294967296) : bits .xor .u32 IntKind.u32.max (c : Int) = ((c ^^^ 4294967295 : Nat) : Int) := by
  rw [show IntKind.u32.max = ((4294967295 : Nat) : Int) from rfl, u32_xor_nat _ _ (by decide) hc, Nat.xor_comm]
abbrev u32 (n : Nat) : Value := .int .u32 (n : Int)
/-- What one turn reckons. -/
theorem turn_num (c : Nat) (hc : c < 4294967296) : bits .xor .u32 ((c : Int) / 2) (bits .and .u32 (c : Int) 1 * 2197175160 % 4294967296) = (tn c : Nat) := by
  rw [show (1 : Int) = ((1 : Nat) : Int) from rfl, u32_and_nat c 1 hc (by decide), Nat.and_one_is_mod]
  have h2 : c % 2 < 2 := Nat.mod_lt _ (by decide)
  rw [show (((c % 2 : Nat) : Int) * 2197175160 % 4294967296) = ((c % 2 * 2197175160 : Nat) : Int) by omega, show ((c : Int) / 2) = ((c / 2 : Nat) : Int) by omega, u32_xor_nat _ _ (by omega) (by omega)]
  rfl
set_option maxRecDepth 100000 in
set_option maxHeartbeats 1000000 in
theorem nextByte_any (c : Nat) (w : World) (hc : c < 4294967296) :
    Calls Tryz.prog 233 #[.int .u32 c] w fun e w' => e = .returned (.int .u32 (zz c)) ∧ w' = w := by
  have hc' : (c : Int) ≤ 4294967295 := by omega
  go_enter Tryz.func233, Tryz.ntmps233
  go_wp2
  go_loopw [0, 3] (fun t0 t3 wr => ∃ k y : Nat, k ≤ 8 ∧ y < 4294967296 ∧ t0 = .int .u32 y ∧ t3 = .int .i64 k ∧ Hid (y = it tn k c) ∧ wr = w) (fun _ t _ => 8 - (intOf t).toNat)
  case atStart => exact ⟨0, c, by omega, hc, rfl, rfl, hide rfl, rfl⟩
  case round =>
    obtain ⟨k, y, hk, hy, rfl, rfl, Hy, rfl⟩ := hrel
    have hy' : (y : Int) ≤ 4294967295 := by omega
    by_cases hlt : k < 8
    · have hlt' : (k : Int) < 8 := by omega
      go_wp2
      go_roundw
      case rel =>
        refine ⟨k + 1, tn y, by omega, tn_lt hy, ?_, by go_num, hide (by rw [it_succ, unhide Hy]), trivial⟩
        exact congrArg (Value.int .u32) (turn_num y hy)
      case measure => simp [intOf]; omega
    · have hlt' : ¬ (k : Int) < 8 := by omega
      have hk8 : k = 8 := by omega
      subst hk8
      go_wp2
      go_ret
      exact ⟨by rw [unhide Hy]; rfl, rfl⟩
set_option maxRecDepth 100000 in
set_option maxHeartbeats 1000000 in
theorem update_any (c : Nat) (v : Value) (p : List Nat) (w : World) (hc : c < 4294967296) (h : Rd w v p) :
    Calls Tryz.prog 193 #[.int .u32 c, v] w fun e w' => e = .returned (.int .u32 (upd c p)) ∧ w' = w := by
  obtain ⟨ao, len, cap, rfl, rfl, h2, ⟨h3, h3'⟩, h4, h5, h6⟩ := h
  have hcm := compl c hc
  have H5 := hide h5
  have H6 := hide h6
  clear h4 h5 h6
  go_enter Tryz.func193, Tryz.ntmps193
  go_wp2
  go_loopw [5, 12] (fun t5 t12 wr => ∃ k y : Nat, k ≤ p.length ∧ y < 4294967296 ∧ t5 = .int .u32 y ∧ t12 = .int .i64 k ∧ Hid (y = reg (c ^^^ 4294967295) (p.take k)) ∧ wr = w) (fun _ t _ => p.length - (intOf t).toNat)
  case atStart =>
    exact ⟨0, c ^^^ 4294967295, by omega, xlt hc (by decide), rfl, rfl, hide (by simp [reg]), rfl⟩
  case round =>
    obtain ⟨k, y, hk, hy, rfl, rfl, Hy, rfl⟩ := hrel
    have hy' : (y : Int) ≤ 4294967295 := by omega
    by_cases hlt : k < p.length
    · have hlt' : (k : Int) < p.length := by omega
      obtain ⟨b, o, rfl, hcell⟩ := unhide H6 (by omega)
      have ck := hcell k hlt
      have hb := getD_byte (unhide H5) k
      have HN := hide (show reg (c ^^^ 4294967295) (p.take (k + 1)) = zz (y ^^^ p.getD k 0) by
        rw [List.take_succ_eq_append_getElem hlt, reg_append, ← unhide Hy, List.getD_eq_getElem?_getD, List.getElem?_eq_getElem hlt]; rfl)
      clear hcell
      generalize p.getD k 0 = z at ck hb HN
      have hx : bits .xor .u32 (y : Int) (z : Int) = ((y ^^^ z : Nat) : Int) := u32_xor_nat y z hy (by omega)
      have hxl : y ^^^ z < 4294967296 := xlt hy (by omega)
      go_wp2_with fail
      refine (nextByte_any _ _ hxl).mono ?_
      rintro e w1 ⟨rfl, rfl⟩
      go_wp2
      go_roundw
      case rel =>
        exact ⟨k + 1, _, by omega, zz_lt hxl, rfl, by go_num, hide (unhide HN).symm, trivial⟩
      case measure => simp [intOf]; omega
    · have hlt' : ¬ (k : Int) < p.length := by omega
      have hk8 : k = p.length := by omega
      subst hk8
      have hcy := compl y hy
      go_wp2
      go_ret
      exact ⟨by rw [unhide Hy, List.take_length]; rfl, rfl⟩
set_option maxRecDepth 100000 in
set_option maxHeartbeats 1000000 in
theorem sum_any (v : Value) (p : List Nat) (w : World) (h : Rd w v p) :
    Calls Tryz.prog 194 #[v] w fun e w' => e = .returned (.int .u32 (upd 0 p)) ∧ w' = w := by
  have H := hide h
  clear h
  go_enter Tryz.func194, Tryz.ntmps194
  go_wp2_with fail
  refine (update_any 0 v p _ (by decide) (unhide H)).mono ?_
  rintro e w1 ⟨rfl, rfl⟩
  go_wp2
  go_ret
  exact ⟨rfl, rfl⟩
end Go.Proofs.YtejchncdimcdbaaGreatDoor
