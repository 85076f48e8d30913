import Derived.Test.YtagpmgbmfoojiaaDoorCR
namespace Go.Proofs.YtagpmgbmfoojiaaDoor
open Go.RowKit
set_option linter.unusedVariables false
set_option linter.unusedSimpArgs false

set_option maxRecDepth 100000 in
set_option maxHeartbeats 1000000 in
theorem rupdate_any (c : Nat) (v : Value) (p : List Nat) (w : World) (hc : c < 4294967296) (h : Rd w v p) :
    Calls Tryd.prog 12 #[.int .u32 c, v] w fun e w' => e = .returned (.int .u32 (upd c p)) ∧ w' = w := by
  obtain ⟨ao, len, cap, rfl, rfl, h2, ⟨h3, h3'⟩, h4, h5, h6⟩ := h
  have hcm := compl c hc
  have H5 := hide h5
  have H6 := hide h6
  clear h4 h5 h6
  have hcl : c ^^^ 4294967295 < 4294967296 := xlt hc (by decide)
  go_enter Tryd.func12, Tryd.ntmps12
  go_wp2_with fail
  refine (turned_any _ _ hcl).mono ?_
  rintro e w1 ⟨rfl, rfl⟩
  go_wp2
  go_loopw [5, 14] (fun t5 t14 wr => ∃ k y : Nat, k ≤ p.length ∧ y < 4294967296 ∧ t5 = .int .u32 (rv 32 y) ∧ t14 = .int .i64 k ∧ Hid (y = reg (c ^^^ 4294967295) (p.take k)) ∧ wr = w1) (fun _ t _ => p.length - (intOf t).toNat)
  case atStart => exact ⟨0, c ^^^ 4294967295, by omega, hcl, rfl, rfl, hide (by simp [reg]), rfl⟩
  case round =>
    obtain ⟨k, y, hk, hy, rfl, rfl, Hy, rfl⟩ := hrel
    by_cases hlt : k < p.length
    · have hlt' : (k : Int) < p.length := by omega
      obtain ⟨b, o, rfl, hcell⟩ := unhide H6 (by omega)
      have ck := hcell k hlt
      have hb := getD_byte (unhide H5) k
      have HN := hide (show reg (c ^^^ 4294967295) (p.take (k + 1)) = zz (y ^^^ p.getD k 0) by
        rw [List.take_succ_eq_append_getElem hlt, reg_append, ← unhide Hy, List.getD_eq_getElem?_getD, List.getElem?_eq_getElem hlt]; rfl)
      clear hcell
      generalize p.getD k 0 = z at ck hb HN
      have hxl : y ^^^ z < 4294967296 := xlt hy (by omega)
      go_wp2
      go_loopw [5, 8] (fun t5 t8 wq => ∃ i x : Nat, i ≤ 8 ∧ x < 4294967296 ∧ t5 = .int .u32 (rv 32 x) ∧ t8 = .int .i64 i ∧ Hid (x = it tn i (y ^^^ z) ^^^ z / 2 ^ i) ∧ wq = wr) (fun _ t _ => 8 - (intOf t).toNat)
      case atStart => exact ⟨0, y, by omega, hy, rfl, rfl, hide (by simp only [it, Nat.pow_zero, Nat.div_one]; rw [Nat.xor_assoc, Nat.xor_self, Nat.xor_zero]), rfl⟩
      case round =>
        obtain ⟨i, x, hi, hx, rfl, rfl, Hx, rfl⟩ := hrel
        by_cases hi8 : i < 8
        · have hi8' : (i : Int) < 8 := by omega
          have hd : (z : Int) / 2 ^ i = ((z / 2 ^ i : Nat) : Int) := by simp
          have hzl : z / 2 ^ i ≤ z := Nat.div_le_self _ _
          have HS := hide (by have := tn_step y z i; rw [← unhide Hx] at this; exact this : it tn (i + 1) (y ^^^ z) ^^^ z / 2 ^ (i + 1) = tn (x ^^^ z / 2 ^ i % 2))
          generalize z / 2 ^ i = d at hd hzl HS
          have hrx : rv 32 x < 4294967296 := rv_lt 32 x
          rcases Nat.mod_two_eq_zero_or_one d with h2 | h2
          · have hb2 : ((d : Int) % 2 == 1) = false := by simp; omega
            have HS' := hide (by have := unhide HS; rw [h2, Nat.xor_zero] at this; exact this)
            go_wp2_with fail
            refine (double_any _ _ hrx).mono ?_
            rintro x1 w2 ⟨rfl, rfl⟩
            rw [← rv_tn hx]
            go_wp2
            go_roundw
            case rel => exact ⟨i + 1, tn x, by omega, tn_lt hx, rfl, by go_num, hide (unhide HS').symm, trivial⟩
            case measure => simp [intOf]; omega
          · have hb2 : ((d : Int) % 2 == 1) = true := by simp; omega
            have hx1 : x ^^^ 1 < 4294967296 := xlt hx (by decide)
            have hbx : bits .xor .u32 (rv 32 x : Int) 2147483648 = (rv 32 (x ^^^ 1) : Nat) := by
              rw [show (2147483648 : Int) = ((2147483648 : Nat) : Int) from rfl, u32_xor_nat _ _ hrx (by decide), rv_xor]; rfl
            have HS' := hide (by have := unhide HS; rw [h2] at this; exact this)
            have hrx1 : rv 32 (x ^^^ 1) < 4294967296 := rv_lt 32 _
            go_wp2_with fail
            refine (double_any _ _ hrx1).mono ?_
            rintro x1 w2 ⟨rfl, rfl⟩
            rw [← rv_tn hx1]
            go_wp2
            go_roundw
            case rel => exact ⟨i + 1, tn (x ^^^ 1), by omega, tn_lt hx1, rfl, by go_num, hide (unhide HS').symm, trivial⟩
            case measure => simp [intOf]; omega
        · have hi8' : ¬ (i : Int) < 8 := by omega
          have hie : i = 8 := by omega
          subst hie
          go_wp2
          go_roundw
          case rel => exact ⟨k + 1, x, by omega, hx, rfl, by go_num, hide (by rw [unhide HN, unhide Hx, show z / 2 ^ 8 = 0 by omega, Nat.xor_zero]; rfl), trivial⟩
          case measure => simp [intOf]; omega
    · have hlt' : ¬ (k : Int) < p.length := by omega
      have hk8 : k = p.length := by omega
      subst hk8
      have hrr := rv_rv hy
      have hcy := compl y hy
      go_wp2_with fail
      refine (turned_any _ _ (rv_lt 32 y)).mono ?_
      rintro e w1 ⟨rfl, rfl⟩
      rw [hrr]
      go_wp2
      go_ret
      exact ⟨by rw [unhide Hy, List.take_length]; rfl, rfl⟩

set_option maxRecDepth 100000 in
set_option maxHeartbeats 1000000 in
theorem rsum_any (v : Value) (p : List Nat) (w : World) (h : Rd w v p) :
    Calls Tryd.prog 14 #[v] w fun e w' => e = .returned (.int .u32 (upd 0 p)) ∧ w' = w := by
  have H := hide h
  clear h
  go_enter Tryd.func14, Tryd.ntmps14
  go_wp2_with fail
  refine (rupdate_any 0 v p _ (by decide) (unhide H)).mono ?_
  rintro e w1 ⟨rfl, rfl⟩
  go_wp2
  go_ret
  exact ⟨rfl, rfl⟩

set_option maxRecDepth 100000 in
set_option maxHeartbeats 1000000 in
theorem rjoin_any (a b : Nat) (n : Int) (w : World) (ha : a < 4294967296) (hb : b < 4294967296) (hn : -9223372036854775808 ≤ n ∧ n ≤ 9223372036854775807) :
    Calls Tryd.prog 16 #[.int .u32 a, .int .u32 b, .int .i64 n] w fun x w' => x = .returned (.int .u32 (joi a b n.toNat)) ∧ w' = w := by
  go_enter Tryd.func16, Tryd.ntmps16
  go_wp2_with fail
  refine (turned_any _ _ ha).mono ?_
  rintro e w1 ⟨rfl, rfl⟩
  go_wp2
  go_loopw [2, 7, 8] (fun t2 t7 t8 wr => ∃ (q : Int) (x y e : Nat), -9223372036854775808 ≤ q ∧ q ≤ 9223372036854775807 ∧ x < 4294967296 ∧ y < 4294967296 ∧ t2 = .int .i64 q ∧ t7 = .int .u32 x ∧ t8 = .int .u32 y ∧ Hid (y = it dbl e 1) ∧ Hid (it dbl (e * q.toNat) x = it dbl (8 * n.toNat) (rv 32 a)) ∧ wr = w1) (fun t _ _ _ => (intOf t).toNat)
  case atStart => exact ⟨n, rv 32 a, 256, 8, hn.1, hn.2, rv_lt 32 a, by decide, rfl, rfl, rfl, hide (by decide), hide rfl, rfl⟩
  case round =>
    obtain ⟨q, x, y, e, hq1, hq2, hx, hy, rfl, rfl, rfl, Hy, HE, rfl⟩ := hrel
    by_cases h0 : 0 < q
    · obtain ⟨m, rfl⟩ : ∃ m : Nat, q = m := ⟨q.toNat, by omega⟩
      have HU := hide (by rw [unhide Hy, hor_unit (it_lt (fun a h => dbl_lt h) e (by decide)), ← it_add] : hor y 32 y = it dbl (e + e) 1)
      have HX := hide (by rw [unhide Hy, hor_unit hx] : hor x 32 y = it dbl e x)
      have HEo := hide (show m % 2 = 1 → it dbl ((e + e) * (m / 2)) (it dbl e x) = it dbl (8 * n.toNat) (rv 32 a) by
        intro h1
        rw [← unhide HE, ← it_add, Int.toNat_natCast]
        congr 1
        have : m = 2 * (m / 2) + 1 := by omega
        generalize m / 2 = d at this
        subst this
        rw [Nat.mul_add, Nat.mul_one, ← Nat.mul_assoc, Nat.mul_two])
      have HEe := hide (show m % 2 = 0 → it dbl ((e + e) * (m / 2)) x = it dbl (8 * n.toNat) (rv 32 a) by
        intro h1
        rw [← unhide HE, Int.toNat_natCast]
        congr 1
        have : m = 2 * (m / 2) := by omega
        generalize m / 2 = d at this
        subst this
        rw [← Nat.mul_assoc, Nat.mul_two])
      clear HE
      have hyy := hor_lt hy 32 y
      have hxy := hor_lt hx 32 y
      rcases Nat.mod_two_eq_zero_or_one m with h2 | h2
      · have HEn := hide (unhide HEe h2)
        have hb2 : ((m : Int) % 2 == 1) = false := by simp; omega
        clear HEe HEo HX hxy
        go_wp2_with fail
        refine (times_any y y _ hy hy).mono ?_
        rintro x1 w2 ⟨rfl, rfl⟩
        go_wp2
        go_roundw
        case rel => exact ⟨(m : Int) / 2, x, hor y 32 y, e + e, by omega, by omega, hx, hyy, by go_num, rfl, rfl, HU, hide (by rw [show ((m : Int) / 2).toNat = m / 2 by omega]; exact unhide HEn), trivial⟩
        case measure => simp [intOf]; omega
      · have HEn := hide (unhide HEo h2)
        have hb2 : ((m : Int) % 2 == 1) = true := by simp; omega
        clear HEe HEo
        go_wp2_with fail
        refine (times_any x y _ hx hy).mono ?_
        rintro x1 w2 ⟨rfl, rfl⟩
        go_wp2_with fail
        refine (times_any y y _ hy hy).mono ?_
        rintro x1 w2 ⟨rfl, rfl⟩
        go_wp2
        go_roundw
        case rel => exact ⟨(m : Int) / 2, hor x 32 y, hor y 32 y, e + e, by omega, by omega, hxy, hyy, by go_num, rfl, rfl, HU, hide (by rw [show ((m : Int) / 2).toNat = m / 2 by omega, unhide HX]; exact unhide HEn), trivial⟩
        case measure => simp [intOf]; omega
    · have hjt : it zz n.toNat a < 4294967296 := it_lt (fun a h => zz_lt h) _ ha
      have hxe : x = rv 32 (it zz n.toNat a) := by
        have h1 := unhide HE
        rw [show q.toNat = 0 by omega, Nat.mul_zero, ← rv_it _ ha, ← it_mul] at h1
        rw [show it zz n.toNat a = it (it tn 8) n.toNat a by rw [show zz = it tn 8 from funext zz_it]]
        exact h1
      have hrr := rv_rv hjt
      rw [← hxe] at hrr
      have hxb : bits .xor .u32 ((it zz n.toNat a : Nat) : Int) (b : Int) = ((it zz n.toNat a ^^^ b : Nat) : Int) := u32_xor_nat _ b hjt hb
      clear HE Hy hxe
      go_wp2_with fail
      refine (turned_any x _ hx).mono ?_
      rintro x1 w2 ⟨rfl, rfl⟩
      rw [hrr]
      go_wp2
      go_ret
      exact ⟨rfl, rfl⟩
end Go.Proofs.YtagpmgbmfoojiaaDoor
