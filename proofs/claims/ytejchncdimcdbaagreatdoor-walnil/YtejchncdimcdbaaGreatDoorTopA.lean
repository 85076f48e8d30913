import Derived.Test.YtejchncdimcdbaaGreatDoorCJn
import Derived.Test.YtejchncdimcdbaaGreatDoorCrcRef
import Derived.Test.YtejchncdimcdbaaGreatDoorReMore
import Derived.Test.YtejchncdimcdbaaGreatDoorCrc
import Derived.Test.YtejchncdimcdbaaGreatDoorWNew
import Derived.Test.YtejchncdimcdbaaGreatDoorRNum
import Derived.Laws.Cover3
import Derived.Test.YtejchncdimcdbaaGreatDoorQLate
import Derived.Deep.RegionHeld3
import Derived.Test.YtejchncdimcdbaaGreatDoorDk18
import Derived.Test.YtejchncdimcdbaaGreatDoorDk22
import Derived.Test.YtejchncdimcdbaaGreatDoorDkP
import Derived.Shelf.Small.Bits
import Derived.Shelf.Strconv.Itoa1
import Derived.Shelf.LaysM
import Derived.Shelf.Strconv.Itoa2
import Derived.Shelf.Pu.ParseUintPublic10
import Derived.Shelf.Pu.ErrVarParseUint
import Derived.Shelf.Sort.Plain
import Derived.Test.YtejchncdimcdbaaGreatDoorProg
import Derived.Maps.AppendAt
import Derived.Sort.OwnSorted
import Derived.Sort.KeysCollected
namespace Go.Proofs.YtejchncdimcdbaaGreatDoor
open Go.RowKit
set_option linter.unusedVariables false
set_option linter.unusedSimpArgs false

set_option maxRecDepth 100000 in
set_option maxHeartbeats 1000000 in
theorem turned_any (c : Nat) (w : World) (hc : c < 4294967296) :
    Calls Tryz.prog 234 #[.int .u32 c] w fun x w' => x = .returned (.int .u32 (rv 32 c)) ∧ w' = w := by
  go_enter Tryz.func234, Tryz.ntmps234
  go_wp2
  go_loopw [3, 4] (fun t3 t4 wr => ∃ k y : Nat, k ≤ 32 ∧ t3 = .int .u32 y ∧ t4 = .int .i64 k ∧ y < 2 ^ k ∧ Hid (y = rv k c) ∧ wr = w) (fun _ t _ => 32 - (intOf t).toNat)
  case atStart => exact ⟨0, 0, by omega, rfl, rfl, by omega, hide rfl, rfl⟩
  case round =>
    obtain ⟨k, y, hk, rfl, rfl, hyk, Hy, rfl⟩ := hrel
    by_cases hlt : k < 32
    · have hlt' : (k : Int) < 32 := by omega
      have hy2 : y < 2147483648 := Nat.lt_of_lt_of_le hyk (Nat.le_trans (Nat.pow_le_pow_right (by omega) (show k ≤ 31 by omega)) (by decide))
      have HP := hide (show y * 2 + c / 2 ^ k % 2 < 2 ^ (k + 1) by rw [Nat.pow_succ]; omega)
      have hd : (c : Int) / 2 ^ k = ((c / 2 ^ k : Nat) : Int) := by simp
      have hdl : c / 2 ^ k ≤ c := Nat.div_le_self _ _
      have HR := hide (show y * 2 + c / 2 ^ k % 2 = rv (k + 1) c by rw [unhide Hy]; rfl)
      generalize c / 2 ^ k = d at hd hdl HP HR
      clear hyk
      go_wp2
      go_roundw
      case rel =>
        refine ⟨k + 1, y * 2 + d % 2, by omega, ?_, by go_num, unhide HP, HR, trivial⟩
        go_num
      case measure => simp [intOf]; omega
    · have hlt' : ¬ (k : Int) < 32 := by omega
      have hk8 : k = 32 := by omega
      subst hk8
      go_wp2
      go_ret
      exact ⟨by rw [unhide Hy]; rfl, rfl⟩

set_option maxRecDepth 100000 in
set_option maxHeartbeats 1000000 in
theorem double_any (r : Nat) (w : World) (hr : r < 4294967296) :
    Calls Tryz.prog 235 #[.int .u32 r] w fun x w' => x = .returned (.int .u32 (dbl r)) ∧ w' = w := by
  by_cases h : 2147483648 ≤ r
  · have h' : (2147483648 : Int) ≤ r := by omega
    have hx : bits .xor .u32 ((r : Int) * 2 % 4294967296) 517762881 = (dbl r : Nat) := by
      rw [dbl_big h hr, show ((r : Int) * 2 % 4294967296) = ((r * 2 % 4294967296 : Nat) : Int) by omega, show (517762881 : Int) = ((517762881 : Nat) : Int) from rfl, u32_xor_nat _ _ (by omega) (by decide)]
    go_enter Tryz.func235, Tryz.ntmps235
    go_wp2
    go_ret
    exact ⟨rfl, rfl⟩
  · have h' : ¬ (2147483648 : Int) ≤ r := by omega
    go_enter Tryz.func235, Tryz.ntmps235
    go_wp2
    go_ret
    exact ⟨by rw [dbl_small (by omega)]; simp, rfl⟩

end Go.Proofs.YtejchncdimcdbaaGreatDoor
namespace Go.Proofs.YtejchncdimcdbaaGreatDoor
open Go.RowKit
set_option linter.unusedVariables false
set_option linter.unusedSimpArgs false

set_option maxRecDepth 100000 in
set_option maxHeartbeats 1000000 in
theorem rupdate_any (c : Nat) (v : Value) (p : List Nat) (w : World) (hc : c < 4294967296) (h : Rd w v p) :
    Calls Tryz.prog 197 #[.int .u32 c, v] w fun e w' => e = .returned (.int .u32 (upd c p)) ∧ w' = w := by
  obtain ⟨ao, len, cap, rfl, rfl, h2, ⟨h3, h3'⟩, h4, h5, h6⟩ := h
  have hcm := compl c hc
  have H5 := hide h5
  have H6 := hide h6
  clear h4 h5 h6
  have hcl : c ^^^ 4294967295 < 4294967296 := xlt hc (by decide)
  go_enter Tryz.func197, Tryz.ntmps197
  go_wp2_with fail
  refine (turned_any _ _ hcl).mono ?_
  rintro e w1 ⟨rfl, rfl⟩
  go_wp2
  go_loopw [5, 14] (fun t5 t14 wr => ∃ k y : Nat, k ≤ p.length ∧ y < 4294967296 ∧ t5 = .int .u32 (rv 32 y) ∧ t14 = .int .i64 k ∧ Hid (y = reg (c ^^^ 4294967295) (p.take k)) ∧ wr = w1) (fun _ t _ => p.length - (intOf t).toNat)
  case atStart => exact ⟨0, c ^^^ 4294967295, by omega, hcl, rfl, rfl, hide (by simp [reg]), rfl⟩
  case round =>
    obtain ⟨k, y, hk, hy, rfl, rfl, Hy, rfl⟩ := hrel
    by_cases hlt : k < p.length
    · have hlt' : (k : Int) < p.length := by omega
      obtain ⟨b, o, rfl, hcell⟩ := unhide H6 (by omega)
      have ck := hcell k hlt
      have hb := getD_byte (unhide H5) k
      have HN := hide (show reg (c ^^^ 4294967295) (p.take (k + 1)) = zz (y ^^^ p.getD k 0) by
        rw [List.take_succ_eq_append_getElem hlt, reg_append, ← unhide Hy, List.getD_eq_getElem?_getD, List.getElem?_eq_getElem hlt]; rfl)
      clear hcell
      generalize p.getD k 0 = z at ck hb HN
      have hxl : y ^^^ z < 4294967296 := xlt hy (by omega)
      go_wp2
      go_loopw [5, 8] (fun t5 t8 wq => ∃ i x : Nat, i ≤ 8 ∧ x < 4294967296 ∧ t5 = .int .u32 (rv 32 x) ∧ t8 = .int .i64 i ∧ Hid (x = it tn i (y ^^^ z) ^^^ z / 2 ^ i) ∧ wq = wr) (fun _ t _ => 8 - (intOf t).toNat)
      case atStart => exact ⟨0, y, by omega, hy, rfl, rfl, hide (by simp only [it, Nat.pow_zero, Nat.div_one]; rw [Nat.xor_assoc, Nat.xor_self, Nat.xor_zero]), rfl⟩
      case round =>
        obtain ⟨i, x, hi, hx, rfl, rfl, Hx, rfl⟩ := hrel
        by_cases hi8 : i < 8
        · have hi8' : (i : Int) < 8 := by omega
          have hd : (z : Int) / 2 ^ i = ((z / 2 ^ i : Nat) : Int) := by simp
          have hzl : z / 2 ^ i ≤ z := Nat.div_le_self _ _
          have HS := hide (by have := tn_step y z i; rw [← unhide Hx] at this; exact this : it tn (i + 1) (y ^^^ z) ^^^ z / 2 ^ (i + 1) = tn (x ^^^ z / 2 ^ i % 2))
          generalize z / 2 ^ i = d at hd hzl HS
          have hrx : rv 32 x < 4294967296 := rv_lt 32 x
          rcases Nat.mod_two_eq_zero_or_one d with h2 | h2
          · have hb2 : ((d : Int) % 2 == 1) = false := by simp; omega
            have HS' := hide (by have := unhide HS; rw [h2, Nat.xor_zero] at this; exact this)
            go_wp2_with fail
            refine (double_any _ _ hrx).mono ?_
            rintro x1 w2 ⟨rfl, rfl⟩
            rw [← rv_tn hx]
            go_wp2
            go_roundw
            case rel => exact ⟨i + 1, tn x, by omega, tn_lt hx, rfl, by go_num, hide (unhide HS').symm, trivial⟩
            case measure => simp [intOf]; omega
          · have hb2 : ((d : Int) % 2 == 1) = true := by simp; omega
            have hx1 : x ^^^ 1 < 4294967296 := xlt hx (by decide)
            have hbx : bits .xor .u32 (rv 32 x : Int) 2147483648 = (rv 32 (x ^^^ 1) : Nat) := by
              rw [show (2147483648 : Int) = ((2147483648 : Nat) : Int) from rfl, u32_xor_nat _ _ hrx (by decide), rv_xor]; rfl
            have HS' := hide (by have := unhide HS; rw [h2] at this; exact this)
            have hrx1 : rv 32 (x ^^^ 1) < 4294967296 := rv_lt 32 _
            go_wp2_with fail
            refine (double_any _ _ hrx1).mono ?_
            rintro x1 w2 ⟨rfl, rfl⟩
            rw [← rv_tn hx1]
            go_wp2
            go_roundw
            case rel => exact ⟨i + 1, tn (x ^^^ 1), by omega, tn_lt hx1, rfl, by go_num, hide (unhide HS').symm, trivial⟩
            case measure => simp [intOf]; omega
        · have hi8' : ¬ (i : Int) < 8 := by omega
          have hie : i = 8 := by omega
          subst hie
          go_wp2
          go_roundw
          case rel => exact ⟨k + 1, x, by omega, hx, rfl, by go_num, hide (by rw [unhide HN, unhide Hx, show z / 2 ^ 8 = 0 by omega, Nat.xor_zero]; rfl), trivial⟩
          case measure => simp [intOf]; omega
    · have hlt' : ¬ (k : Int) < p.length := by omega
      have hk8 : k = p.length := by omega
      subst hk8
      have hrr := rv_rv hy
      have hcy := compl y hy
      go_wp2_with fail
      refine (turned_any _ _ (rv_lt 32 y)).mono ?_
      rintro e w1 ⟨rfl, rfl⟩
      rw [hrr]
      go_wp2
      go_ret
      exact ⟨by rw [unhide Hy, List.take_length]; rfl, rfl⟩

set_option maxRecDepth 100000 in
set_option maxHeartbeats 1000000 in
theorem rsum_any (v : Value) (p : List Nat) (w : World) (h : Rd w v p) :
    Calls Tryz.prog 157 #[v] w fun e w' => e = .returned (.int .u32 (upd 0 p)) ∧ w' = w := by
  have H := hide h
  clear h
  go_enter Tryz.func157, Tryz.ntmps157
  go_wp2_with fail
  refine (rupdate_any 0 v p _ (by decide) (unhide H)).mono ?_
  rintro e w1 ⟨rfl, rfl⟩
  go_wp2
  go_ret
  exact ⟨rfl, rfl⟩

end Go.Proofs.YtejchncdimcdbaaGreatDoor
/-
  Plain reckoning: the bytes of a frame. No program.
-/
namespace Go.Proofs.YtejchncdimcdbaaGreatDoor
set_option linter.unusedVariables false
set_option linter.unusedSimpArgs false

theorem f_fold_form (r : List Nat) : ∀ a, (∀ y ∈ r, y < 256) → ∃ s, s < 256 ^ r.length ∧ r.foldl (fun a c => a * 256 + c) a = a * 256 ^ r.length + s := by
  induction r with
  | nil => intro a _; exact ⟨0, by simp, by simp⟩
  | cons c r ih =>
    intro a hb
    obtain ⟨s, hs, e⟩ := ih (a * 256 + c) (fun y hy => hb y (by simp [hy]))
    have hc := hb c (by simp)
    refine ⟨c * 256 ^ r.length + s, ?_, ?_⟩
    · simp only [List.length_cons]
      rw [Nat.pow_succ]
      have : c * 256 ^ r.length ≤ 255 * 256 ^ r.length := Nat.mul_le_mul (by omega) (Nat.le_refl _)
      omega
    · simp only [List.foldl_cons, List.length_cons]
      rw [e, Nat.pow_succ, Nat.add_mul, Nat.mul_comm (256 ^ r.length) 256, ← Nat.mul_assoc]; omega
theorem f_wide_fold (r : List Nat) : ∀ a, (∀ y ∈ r, y < 256) → wide (r.foldl (fun a c => a * 256 + c) a) r.length = r := by
  induction r with
  | nil => intro a _; rfl
  | cons c r ih =>
    intro a hb
    have hb' : ∀ y ∈ r, y < 256 := fun y hy => hb y (by simp [hy])
    have hc := hb c (by simp)
    obtain ⟨s, hs, e⟩ := f_fold_form r (a * 256 + c) hb'
    have h2 := ih (a * 256 + c) hb'
    simp only [List.foldl_cons, List.length_cons, wide]
    rw [h2, e]
    have hp : 0 < 256 ^ r.length := Nat.pow_pos (by omega)
    have : ((a * 256 + c) * 256 ^ r.length + s) / 256 ^ r.length = a * 256 + c := by
      rw [Nat.add_comm, Nat.add_mul_div_right _ _ hp, Nat.div_eq_of_lt hs, Nat.zero_add]
    rw [this]
    congr 1; omega
theorem f_fold_mod (r : List Nat) : ∀ a, (∀ y ∈ r, y < 256) → (a + 1) * 256 ^ r.length ≤ 18446744073709551616 → r.foldl (fun a c => (a * 256 + c) % 18446744073709551616) a = r.foldl (fun a c => a * 256 + c) a := by
  induction r with
  | nil => intro a _ _; rfl
  | cons c r ih =>
    intro a hb h
    have hc := hb c (by simp)
    simp only [List.foldl_cons]
    have hp : 0 < 256 ^ r.length := Nat.pow_pos (by omega)
    simp only [List.length_cons, Nat.pow_succ] at h
    have h2 : (a * 256 + c + 1) * 256 ^ r.length ≤ (a + 1) * (256 ^ r.length * 256) := by
      rw [Nat.mul_comm (256 ^ r.length) 256, ← Nat.mul_assoc]
      exact Nat.mul_le_mul (by omega) (Nat.le_refl _)
    have h3 : a * 256 + c + 1 ≤ (a * 256 + c + 1) * 256 ^ r.length := Nat.le_mul_of_pos_right _ hp
    rw [Nat.mod_eq_of_lt (by omega)]
    exact ih _ (fun y hy => hb y (by simp [hy])) (by omega)
theorem f_wide_beL {r : List Nat} (hb : ∀ y ∈ r, y < 256) (hl : r.length ≤ 8) : wide (beL r) r.length = r ∧ beL r < 256 ^ r.length := by
  have hpow : 256 ^ r.length ≤ 256 ^ 8 := Nat.pow_le_pow_right (by omega) hl
  have h8 : (256 : Nat) ^ 8 = 18446744073709551616 := (by decide)
  have e : beL r = r.foldl (fun a c => a * 256 + c) 0 := f_fold_mod r 0 hb (by omega)
  obtain ⟨s, hs, e2⟩ := f_fold_form r 0 hb
  rw [e]
  exact ⟨f_wide_fold r 0 hb, by rw [e2]; omega⟩
theorem f_beL_wide (v : Nat) : ∀ n a, n ≤ 8 → a * 256 ^ n + v % 256 ^ n < 18446744073709551616 → (wide v n).foldl (fun a c => (a * 256 + c) % 18446744073709551616) a = a * 256 ^ n + v % 256 ^ n := by
  intro n
  induction n with
  | zero => intro a _ _; simp [wide, Nat.mod_one]
  | succ n ih =>
    intro a hn h
    have hpow : 256 ^ (n + 1) = 256 ^ n * 256 := Nat.pow_succ ..
    have hv : v % 256 ^ (n + 1) = v / 256 ^ n % 256 * 256 ^ n + v % 256 ^ n := by
      rw [hpow, Nat.mod_mul]
      rw [Nat.mul_comm (256 ^ n)]; omega
    have hpos : 0 < 256 ^ n := Nat.pow_pos (by omega)
    have e1 : a * 256 ^ (n + 1) = a * 256 * 256 ^ n := by rw [hpow, Nat.mul_comm (256 ^ n) 256, Nat.mul_assoc]
    have e2 : (a * 256 + v / 256 ^ n % 256) * 256 ^ n = a * 256 * 256 ^ n + v / 256 ^ n % 256 * 256 ^ n := Nat.add_mul ..
    have hle : a * 256 + v / 256 ^ n % 256 ≤ (a * 256 + v / 256 ^ n % 256) * 256 ^ n := Nat.le_mul_of_pos_right _ hpos
    simp only [wide, List.foldl_cons]
    rw [Nat.mod_eq_of_lt (by omega), ih _ (by omega) (by omega)]
    omega
theorem beL_of_wide {v n : Nat} (hn : n ≤ 8) (hv : v < 256 ^ n) : beL (wide v n) = v := by
  have h3 : 256 ^ n ≤ 256 ^ 8 := Nat.pow_le_pow_right (by omega) hn
  have h4 : (256 : Nat) ^ 8 = 18446744073709551616 := (by decide)
  have h5 := f_beL_wide v n 0 hn (by rw [Nat.mod_eq_of_lt hv]; omega)
  unfold beL
  rw [h5, Nat.mod_eq_of_lt hv]; omega

/-- The check sum's text, and the sum. -/
def txF (pl : Nat) (pay : List Nat) : List Nat := wide pay.length 4 ++ (wide pl 8 ++ pay)
def sumF (pl : Nat) (pay : List Nat) : Nat := upd 0 (txF pl pay)
/-- The bytes of a frame. -/
def frB (pl : Nat) (pay : List Nat) : List Nat := 245 :: (wide pay.length 4 ++ (wide pl 8 ++ (wide (sumF pl pay) 4 ++ (pay ++ [95]))))
theorem frB_len (pl : Nat) (pay : List Nat) : (frB pl pay).length = pay.length + 18 := by simp [frB, wide_len]; omega
theorem txF_byte {pl : Nat} {pay : List Nat} (hb : ∀ x ∈ pay, x < 256) : ∀ x ∈ txF pl pay, x < 256 := by
  intro x hx
  simp only [txF, List.mem_append] at hx
  rcases hx with h | h | h
  · exact wide_byte _ _ _ h
  · exact wide_byte _ _ _ h
  · exact hb x h
theorem sumF_lt {pl : Nat} {pay : List Nat} (hb : ∀ x ∈ pay, x < 256) : sumF pl pay < 4294967296 := upd_lt (by decide) (txF_byte hb)
theorem frB_byte {pl : Nat} {pay : List Nat} (hb : ∀ x ∈ pay, x < 256) : ∀ x ∈ frB pl pay, x < 256 := by
  intro x hx
  simp only [frB, List.mem_append, List.mem_cons, List.not_mem_nil, or_false] at hx
  rcases hx with rfl | h | h | h | h | rfl
  · decide
  · exact wide_byte _ _ _ h
  · exact wide_byte _ _ _ h
  · exact wide_byte _ _ _ h
  · exact hb x h
  · decide

/-- The frame with which p begins. -/
def firstF (p : List Nat) : Option (Nat × List Nat) :=
  if p.getD 0 0 = 245 ∧ 1 ≤ beL ((p.drop 1).take 4) ∧ beL ((p.drop 1).take 4) ≤ 65535 ∧ 17 + beL ((p.drop 1).take 4) < p.length ∧ p.getD (17 + beL ((p.drop 1).take 4)) 0 = 95 ∧
      sumF (beL ((p.drop 5).take 8)) ((p.drop 17).take (beL ((p.drop 1).take 4))) = beL ((p.drop 13).take 4)
  then some (beL ((p.drop 5).take 8), (p.drop 17).take (beL ((p.drop 1).take 4))) else none

theorem frB_parts (pl : Nat) (pay t : List Nat) (hpl : pl < 18446744073709551616) (hl : pay.length ≤ 65535) (hb : ∀ x ∈ pay, x < 256) :
    ((frB pl pay ++ t).drop 1).take 4 = wide pay.length 4 ∧ ((frB pl pay ++ t).drop 5).take 8 = wide pl 8 ∧ ((frB pl pay ++ t).drop 13).take 4 = wide (sumF pl pay) 4 ∧ ((frB pl pay ++ t).drop 17).take pay.length = pay ∧ (frB pl pay ++ t).getD (17 + pay.length) 0 = 95 := by
  have h4 := wide_len pay.length 4
  have h8 := wide_len pl 8
  have hs := wide_len (sumF pl pay) 4
  obtain ⟨A, hA⟩ : ∃ A, wide pay.length 4 = A := ⟨_, rfl⟩
  obtain ⟨B, hB⟩ : ∃ B, wide pl 8 = B := ⟨_, rfl⟩
  obtain ⟨C, hC⟩ : ∃ C, wide (sumF pl pay) 4 = C := ⟨_, rfl⟩
  unfold frB
  rw [hA] at h4 ⊢
  rw [hB] at h8 ⊢
  rw [hC] at hs ⊢
  have e1 : (245 :: (A ++ (B ++ (C ++ (pay ++ [95])))) ++ t) = [245] ++ (A ++ (B ++ (C ++ (pay ++ ([95] ++ t))))) := by simp
  rw [e1]
  refine ⟨?_, ?_, ?_, ?_, ?_⟩
  · rw [List.drop_append_of_le_length (by simp)]; simp [List.take_append, h4]
  · rw [show 5 = 1 + 4 by rfl, ← List.drop_drop, List.drop_append_of_le_length (by simp), show List.drop 1 [245] = [] from rfl, List.nil_append, ← h4, List.drop_left, ← h8, List.take_left]
  · rw [show 13 = 1 + (4 + 8) by rfl, ← List.drop_drop, ← List.drop_drop, List.drop_append_of_le_length (by simp), show List.drop 1 [245] = [] from rfl, List.nil_append]
    rw [← h4, List.drop_left, ← h8, List.drop_left]
    rw [h4, ← hs, List.take_left]
  · rw [show 17 = 1 + (4 + (8 + 4)) by rfl, ← List.drop_drop, ← List.drop_drop, ← List.drop_drop, List.drop_append_of_le_length (by simp), show List.drop 1 [245] = [] from rfl, List.nil_append]
    conv => lhs; arg 2; arg 1; rw [← hs]
    conv => lhs; arg 2; arg 2; arg 1; rw [← h8]
    conv => lhs; arg 2; arg 2; arg 2; arg 1; rw [← h4]
    rw [List.drop_left, List.drop_left, List.drop_left, List.take_left]
  · rw [List.getD_eq_getElem?_getD, List.getElem?_append_right (by simp; omega), List.getElem?_append_right (by simp; omega), List.getElem?_append_right (by simp; omega), List.getElem?_append_right (by simp; omega), List.getElem?_append_right (by simp; omega), h4, h8, hs]
    simp only [List.length_cons, List.length_nil]
    rw [show 17 + pay.length - (0 + 1) - 4 - 8 - 4 - pay.length = 0 by omega]
    rfl

theorem firstF_some (pl : Nat) (pay t : List Nat) (hpl : pl < 18446744073709551616) (h1 : 1 ≤ pay.length) (hl : pay.length ≤ 65535) (hb : ∀ x ∈ pay, x < 256) : firstF (frB pl pay ++ t) = some (pl, pay) := by
  obtain ⟨p1, p2, p3, p4, p5⟩ := frB_parts pl pay t hpl hl hb
  have hlen : (frB pl pay ++ t).length = pay.length + 18 + t.length := by rw [List.length_append, frB_len]
  have h0 : (frB pl pay ++ t).getD 0 0 = 245 := rfl
  unfold firstF
  obtain ⟨P, hP⟩ : ∃ P, frB pl pay ++ t = P := ⟨_, rfl⟩
  rw [hP] at p1 p2 p3 p4 p5 hlen h0 ⊢
  rw [p1, p2, p3, beL_of_wide (by omega) (show pay.length < 256 ^ 4 by omega), beL_of_wide (by omega) (show pl < 256 ^ 8 by omega), beL_of_wide (by omega) (show sumF pl pay < 256 ^ 4 from sumF_lt hb), p4]
  rw [if_pos ⟨h0, h1, hl, by omega, p5, rfl⟩]

theorem firstF_form {p : List Nat} {pl : Nat} {pay : List Nat} (h : firstF p = some (pl, pay)) (hb : ∀ x ∈ p, x < 256) :
    pl < 18446744073709551616 ∧ 1 ≤ pay.length ∧ pay.length ≤ 65535 ∧ (∀ x ∈ pay, x < 256) ∧ p = frB pl pay ++ p.drop (pay.length + 18) := by
  unfold firstF at h
  split at h
  case isFalse => simp at h
  rename_i hc
  obtain ⟨c1, c2, c3, c4, c5, c6⟩ := hc
  simp only [Option.some.injEq, Prod.mk.injEq] at h
  obtain ⟨h1, h2⟩ := h
  have hd : ∀ a n x, x ∈ (p.drop a).take n → x < 256 := fun a n x hx => hb x (List.mem_of_mem_drop (List.mem_of_mem_take hx))
  have l4 : ((p.drop 1).take 4).length = 4 := by simp; omega
  have l8 : ((p.drop 5).take 8).length = 8 := by simp; omega
  have ls : ((p.drop 13).take 4).length = 4 := by simp; omega
  have w4 := f_wide_beL (hd 1 4) (by omega)
  have w8 := f_wide_beL (hd 5 8) (by omega)
  have ws := f_wide_beL (hd 13 4) (by omega)
  rw [l4] at w4
  rw [l8] at w8
  rw [ls] at ws
  have hpn : pay.length = beL ((p.drop 1).take 4) := by rw [← h2, List.length_take, List.length_drop]; omega
  have hpb : ∀ x ∈ pay, x < 256 := fun x hx => hd 17 _ x (by rw [← h2] at hx; exact hx)
  refine ⟨by rw [← h1]; have := w8.2; simpa using this, by omega, by omega, hpb, ?_⟩
  rw [h2, h1] at c6
  rw [h1] at w8
  unfold frB
  rw [c6, hpn, w4.1, w8.1, ws.1]
  have e0 : p = p.getD 0 0 :: p.drop 1 := by
    cases p with
    | nil => simp at c4
    | cons a r => rfl
  have e1 : p.drop 1 = (p.drop 1).take 4 ++ p.drop 5 := by rw [show 5 = 1 + 4 by rfl, ← List.drop_drop, List.take_append_drop]
  have e5 : p.drop 5 = (p.drop 5).take 8 ++ p.drop 13 := by rw [show 13 = 5 + 8 by rfl, ← List.drop_drop, List.take_append_drop]
  have e13 : p.drop 13 = (p.drop 13).take 4 ++ p.drop 17 := by rw [show 17 = 13 + 4 by rfl, ← List.drop_drop, List.take_append_drop]
  have e17 : p.drop 17 = pay ++ p.drop (17 + pay.length) := by rw [hpn, ← List.drop_drop, ← h2, List.take_append_drop]
  have e18 : p.drop (17 + pay.length) = [95] ++ p.drop (pay.length + 18) := by
    rw [hpn]
    rw [show beL ((p.drop 1).take 4) + 18 = 17 + beL ((p.drop 1).take 4) + 1 by omega]
    rw [List.drop_eq_getElem_cons c4]
    rw [List.getD_eq_getElem?_getD, List.getElem?_eq_getElem c4] at c5
    simp only [Option.getD_some] at c5
    rw [c5]; rfl
  rw [← hpn]
  conv => lhs; rw [e0, c1, e1, e5, e13, e17, e18]
  simp

/-- A frame cut short, with noughts behind it, is none. -/
theorem firstF_torn (pl : Nat) (pay : List Nat) (c k : Nat) (hpl : pl < 18446744073709551616) (hl : pay.length ≤ 65535) (hb : ∀ x ∈ pay, x < 256) (hc : c < pay.length + 18) :
    firstF ((frB pl pay).take c ++ List.replicate k 0) = none := by
  obtain ⟨p, hp⟩ : ∃ p, (frB pl pay).take c ++ List.replicate k 0 = p := ⟨_, rfl⟩
  have hpb : ∀ x ∈ p, x < 256 := by
    intro x hx
    rw [← hp] at hx
    rcases List.mem_append.1 hx with h | h
    · exact frB_byte hb x (List.mem_of_mem_take h)
    · have := (List.mem_replicate.1 h).2; omega
  have hlt : ((frB pl pay).take c).length = c := by rw [List.length_take, frB_len]; omega
  have hz : ∀ i, c ≤ i → p.getD i 0 = 0 := by
    intro i hi
    rw [← hp, List.getD_eq_getElem?_getD, List.getElem?_append_right (by omega), List.getElem?_replicate]
    split <;> rfl
  rw [hp]
  cases h : firstF p with
  | none => rfl
  | some x =>
    exfalso
    obtain ⟨pl', pay'⟩ := x
    obtain ⟨g1, g2, g3, g4, g5⟩ := firstF_form h hpb
    obtain ⟨p1, p2, p3, p4, p5⟩ := frB_parts pl' pay' (p.drop (pay'.length + 18)) g1 g3 g4
    rw [← g5] at p1 p5
    rcases Nat.lt_or_ge 17 c with h17 | h17
    · have q1 := (frB_parts pl pay [] hpl hl hb).1
      rw [List.append_nil] at q1
      have e : (p.drop 1).take 4 = ((frB pl pay).drop 1).take 4 := by
        rw [← hp, List.drop_append_of_le_length (by omega), List.take_append_of_le_length (by rw [List.length_drop, hlt]; omega), List.drop_take, List.take_take, Nat.min_eq_left (by omega)]
      rw [p1, q1] at e
      have e2 := congrArg beL e
      rw [beL_of_wide (by omega) (show pay'.length < 256 ^ 4 by omega), beL_of_wide (by omega) (show pay.length < 256 ^ 4 by omega)] at e2
      have := hz (17 + pay'.length) (by omega)
      omega
    · have := hz (17 + pay'.length) (by omega)
      omega

theorem getD_append_l (a b : List Nat) (i : Nat) (h : i < a.length) : (a ++ b).getD i 0 = a.getD i 0 := by
  rw [List.getD_eq_getElem?_getD, List.getElem?_append_left h, ← List.getD_eq_getElem?_getD]
theorem getD_append_r (a b : List Nat) (i : Nat) (h : a.length ≤ i) : (a ++ b).getD i 0 = b.getD (i - a.length) 0 := by
  rw [List.getD_eq_getElem?_getD, List.getElem?_append_right h, ← List.getD_eq_getElem?_getD]
/-- The text of the sum, out of the frame's bytes. -/
theorem tx_getD (pl : Nat) (pay : List Nat) (j : Nat) (h : j < 12 + pay.length) : (txF pl pay).getD j 0 = (frB pl pay).getD (if j < 12 then j + 1 else j + 5) 0 := by
  have h4 := wide_len pay.length 4
  have h8 := wide_len pl 8
  have hs := wide_len (sumF pl pay) 4
  unfold frB
  generalize wide (sumF pl pay) 4 = C at hs
  unfold txF
  generalize wide pay.length 4 = A at h4
  generalize wide pl 8 = B at h8
  split
  · rename_i h12
    rw [List.getD_cons_succ]
    rcases Nat.lt_or_ge j 4 with g | g
    · rw [getD_append_l _ _ _ (by omega), getD_append_l _ _ _ (by omega)]
    · rw [getD_append_r A _ _ (by omega), getD_append_r A _ _ (by omega), getD_append_l B _ _ (by omega), getD_append_l B _ _ (by omega)]
  · rename_i h12
    rw [show j + 5 = (j + 4) + 1 from rfl, List.getD_cons_succ]
    rw [getD_append_r A (B ++ pay) _ (by omega), getD_append_r B pay _ (by omega), getD_append_r A _ _ (by omega), getD_append_r B _ _ (by omega), getD_append_r C _ _ (by omega), getD_append_l pay _ _ (by omega), h4, h8, hs]
    congr 1
theorem txF_len (pl : Nat) (pay : List Nat) : (txF pl pay).length = 12 + pay.length := by simp [txF, wide_len]; omega
theorem ext_getD {p q : List Nat} (hl : p.length = q.length) (h : ∀ j, j < p.length → p.getD j 0 = q.getD j 0) : p = q := by
  refine List.ext_getElem hl fun i h1 h2 => ?_
  have := h i h1
  rw [List.getD_eq_getElem?_getD, List.getD_eq_getElem?_getD, List.getElem?_eq_getElem h1, List.getElem?_eq_getElem h2] at this
  simpa using this

/-- One byte turned, not of the length: no frame. -/
theorem firstF_turned (pl : Nat) (pay : List Nat) (at_ x : Nat) (hpl : pl < 18446744073709551616) (hl : pay.length ≤ 65535) (hb : ∀ x ∈ pay, x < 256) (ha : at_ < pay.length + 18) (ha' : at_ = 0 ∨ 5 ≤ at_) (hx : x < 256) (hn : x ≠ (frB pl pay).getD at_ 0) :
    firstF ((frB pl pay).set at_ x) = none := by
  obtain ⟨p, hp⟩ : ∃ p, (frB pl pay).set at_ x = p := ⟨_, rfl⟩
  have hpl' : p.length = pay.length + 18 := by rw [← hp, List.length_set, frB_len]
  have hpb : ∀ y ∈ p, y < 256 := by
    intro y hy
    rw [← hp] at hy
    rcases List.mem_or_eq_of_mem_set hy with h | h
    · exact frB_byte hb y h
    · omega
  have hg : ∀ j, j ≠ at_ → p.getD j 0 = (frB pl pay).getD j 0 := by
    intro j hj
    rw [← hp, List.getD_eq_getElem?_getD, List.getElem?_set_ne (by omega), ← List.getD_eq_getElem?_getD]
  have hg1 : p.getD at_ 0 = x := by
    rw [← hp, List.getD_eq_getElem?_getD, List.getElem?_set_self (by rw [frB_len]; exact ha)]; rfl
  rw [hp]
  cases h : firstF p with
  | none => rfl
  | some y =>
    exfalso
    obtain ⟨pl', pay'⟩ := y
    obtain ⟨g1, g2, g3, g4, g5⟩ := firstF_form h hpb
    have q1 := (frB_parts pl pay [] hpl hl hb).1
    rw [List.append_nil] at q1
    have p1 := (frB_parts pl' pay' (p.drop (pay'.length + 18)) g1 g3 g4).1
    rw [← g5] at p1
    have e : (p.drop 1).take 4 = ((frB pl pay).drop 1).take 4 := by
      refine ext_getD (by simp [frB_len, hpl']) fun j hj => ?_
      have hj4 : j < 4 := by rw [List.length_take] at hj; omega
      have := hg (j + 1) (by omega)
      simpa [List.getD_eq_getElem?_getD, List.getElem?_take, hj4, List.getElem?_drop] using this
    rw [p1, q1] at e
    have e2 := congrArg beL e
    rw [beL_of_wide (by omega) (show pay'.length < 256 ^ 4 by omega), beL_of_wide (by omega) (show pay.length < 256 ^ 4 by omega)] at e2
    have e3 : p = frB pl' pay' := by
      rw [List.drop_eq_nil_of_le (by omega), List.append_nil] at g5
      exact g5
    -- the sums' texts part in one byte at most
    have l1 := txF_len pl pay
    have l2 := txF_len pl' pay'
    have hd : ∀ j, j < 12 + pay.length → (if j < 12 then j + 1 else j + 5) ≠ at_ → (txF pl' pay').getD j 0 = (txF pl pay).getD j 0 := by
      intro j hj hne
      rw [tx_getD _ _ _ (by omega), tx_getD _ _ _ hj, ← e3, hg _ hne]
    have s1 := (frB_parts pl pay [] hpl hl hb).2.2.1
    rw [List.append_nil] at s1
    have s2 := (frB_parts pl' pay' [] g1 g3 g4).2.2.1
    rw [List.append_nil, ← e3] at s2
    by_cases hs : 13 ≤ at_ ∧ at_ < 17
    · -- the sum itself was turned: the text is the same
      have ht : txF pl' pay' = txF pl pay := ext_getD (by omega) fun j hj => hd j (by omega) (by split <;> omega)
      have hsum : sumF pl' pay' = sumF pl pay := by unfold sumF; rw [ht]
      rw [hsum, ← s1] at s2
      have := congrArg (fun l => l.getD (at_ - 13) 0) s2
      simp only [List.getD_eq_getElem?_getD, List.getElem?_take, List.getElem?_drop] at this
      rw [if_pos (by omega), show 13 + (at_ - 13) = at_ by omega, if_pos (by omega), ← List.getD_eq_getElem?_getD, ← List.getD_eq_getElem?_getD, hg1] at this
      exact hn this
    · have hsum : wide (sumF pl' pay') 4 = wide (sumF pl pay) 4 := by
        rw [← s1, ← s2]
        refine ext_getD (by simp [frB_len, hpl']) fun j hj => ?_
        have hj4 : j < 4 := by rw [List.length_take] at hj; omega
        have := hg (13 + j) (by omega)
        simpa [List.getD_eq_getElem?_getD, List.getElem?_take, hj4, List.getElem?_drop] using this
      have hsum2 := congrArg beL hsum
      rw [beL_of_wide (by omega) (show sumF pl' pay' < 256 ^ 4 from sumF_lt g4), beL_of_wide (by omega) (show sumF pl pay < 256 ^ 4 from sumF_lt hb)] at hsum2
      obtain ⟨z, hz⟩ : ∃ z, (if at_ < 13 then at_ - 1 else at_ - 5) = z := ⟨_, rfl⟩
      have hdz : ∀ j, j < 12 + pay.length → j ≠ z → (txF pl' pay').getD j 0 = (txF pl pay).getD j 0 := by
        intro j hj hne
        refine hd j hj ?_
        rw [← hz] at hne
        split at hne <;> split <;> omega
      have ht : txF pl' pay' = txF pl pay := by
        refine reg_tells (0 ^^^ 4294967295) _ _ z (by decide) (by omega) (txF_byte g4) (txF_byte hb) ?_ ?_ (upd_inj hsum2)
        · refine ext_getD (by simp; omega) fun j hj => ?_
          rw [List.length_take] at hj
          have := hdz j (by omega) (by omega)
          simpa [List.getD_eq_getElem?_getD, List.getElem?_take, show j < z by omega] using this
        · refine ext_getD (by simp; omega) fun j hj => ?_
          rw [List.length_drop] at hj
          have := hdz (z + 4 + j) (by omega) (by omega)
          simpa [List.getD_eq_getElem?_getD, List.getElem?_drop] using this
      have hfr : frB pl' pay' = frB pl pay := by
        have t1 : wide pay'.length 4 = wide pay.length 4 := e
        have t2 : wide pl' 8 ++ pay' = wide pl 8 ++ pay := by
          unfold txF at ht
          rw [t1] at ht
          exact List.append_cancel_left ht
        have t3 := List.append_inj t2 (by rw [wide_len, wide_len])
        unfold frB
        rw [t1, t3.1, hsum, t3.2]
      rw [e3, hfr] at hg1
      exact hn hg1.symm
end Go.Proofs.YtejchncdimcdbaaGreatDoor
namespace Go.Proofs.YtejchncdimcdbaaGreatDoor
open Go.RowKit
set_option linter.unusedVariables false
set_option linter.unusedSimpArgs false

set_option maxRecDepth 100000 in
set_option maxHeartbeats 1000000 in
theorem sumOf_any (pl : Nat) (v : Value) (p : List Nat) (w : World) (h : Rd w v p) (hpl : pl < 18446744073709551616) (hl : p.length ≤ 65535) :
    Calls Tryz.prog 151 #[.int .u64 pl, v] w fun e w' => e = .returned (.int .u32 (sumF pl p)) ∧ Kept [] w w' := by
  have H := hide h
  obtain ⟨a1, n1, c1, rfl, hn1, _⟩ := id h
  subst hn1
  clear h
  go_enter Tryz.func151, Tryz.ntmps151
  have HW0 := hide (Wn.start (Kept.refl [] w))
  go_wp2_with fail
  refine Calls.mono (wn_u32 p.length (unhide HW0) (by omega) (by simp)) ?_
  rintro e w1 ⟨rfl, v1, h1⟩
  have HW1 := hide h1
  clear h1 HW0
  go_wp2_with fail
  refine Calls.mono (wn_u64 pl (unhide HW1) (by simp [wide_len])) ?_
  rintro e w2 ⟨rfl, v2, h2⟩
  have HW2 := hide h2
  clear h2 HW1
  go_wp2_with fail
  refine Calls.mono (wn_bytes (unhide HW2) (by simp [wide_len])) ?_
  rintro e w3 ⟨v3, rfl, n3, k3⟩
  have HR3 := hide n3.1
  have HK3 := hide k3
  have HP3 := hide ((unhide H).old k3 (by simp))
  clear n3 k3 HW2
  go_wp2_with fail
  refine Calls.mono (sum_any v3 _ w3 (unhide HR3)) ?_
  rintro e w4 ⟨rfl, rfl⟩
  go_wp2_with fail
  refine Calls.mono (update_any _ _ p w4 (upd_lt (by decide) (unhide HR3).byte) (unhide HP3)) ?_
  rintro e w5 ⟨rfl, rfl⟩
  rw [← upd_append]
  go_wp2
  go_ret
  refine ⟨?_, unhide HK3⟩
  simp [sumF, txF, List.append_assoc]

theorem Wn.pass {w0 w w' : World} {b : Nat} {v : Value} {bs : List Nat} (h : Wn w0 w b v bs) (k : Kept [] w w') : Wn w0 w' b v bs :=
  ⟨h.at_.kept k (by simp) (by simp), h.new, h.hb, h.kept.trans k (by simp)⟩
/-- What Encode answers. -/
def encE (p : List Nat) : Nat := if 65535 < p.length then 2 else if p.length = 0 then 3 else 0
def encB (pl : Nat) (p : List Nat) : List Nat := if encE p = 0 then frB pl p else []

set_option maxRecDepth 100000 in
set_option maxHeartbeats 1000000 in
theorem encode_any (pl : Nat) (v : Value) (p : List Nat) (w : World) (h : Rd w v p) (hpl : pl < 18446744073709551616) :
    Calls Tryz.prog 105 #[.agg #[.int .u64 pl, v]] w fun e w' => ∃ v', e = .returned (.tuple #[v', .int .i64 (encE p)]) ∧ NewB w w' v' (encB pl p) ∧ Kept [] w w' := by
  have H := hide h
  obtain ⟨a1, n1, c1, rfl, hn1, _⟩ := id h
  subst hn1
  clear h
  by_cases h1 : 65535 < p.length
  · have h1' : (65535 : Int) < p.length := by omega
    have HE := hide (by simp [encE, h1] : encE p = 2)
    have HB := hide (by simp [encB, unhide HE] : encB pl p = [])
    rw [unhide HE, unhide HB]
    clear h1
    go_enter Tryz.func105, Tryz.ntmps105
    go_wp2
    go_ret2
    exact ⟨_, rfl, NewB.nil _ _, (Kept.refl [] w).alloc _⟩
  by_cases h0 : p.length = 0
  · have h1' : ¬ (65535 : Int) < p.length := by omega
    have h0' : (p.length : Int) = 0 := by omega
    have HE := hide (by simp [encE, h0] : encE p = 3)
    have HB := hide (by simp [encB, unhide HE] : encB pl p = [])
    rw [unhide HE, unhide HB]
    clear h1
    go_enter Tryz.func105, Tryz.ntmps105
    go_wp2
    go_ret2
    exact ⟨_, rfl, NewB.nil _ _, (Kept.refl [] w).alloc _⟩
  have h1' : ¬ (65535 : Int) < p.length := by omega
  have h0' : ¬ (p.length : Int) = 0 := by omega
  have HE := hide (by simp [encE, h0, h1] : encE p = 0)
  have HB := hide (by simp [encB, unhide HE] : encB pl p = frB pl p)
  rw [unhide HE, unhide HB]
  have hl : p.length ≤ 65535 := by omega
  clear h1 h0
  go_enter Tryz.func105, Tryz.ntmps105
  have HK0 := hide ((Kept.refl [] w).alloc (.cells #[.int .u64 (pl : Int), .slice a1 p.length c1] 187))
  have HC0 := hide (heap_alloc_new w (.cells #[.int .u64 (pl : Int), .slice a1 p.length c1] 187))
  go_wp2_with fail
  obtain ⟨W, hW⟩ : ∃ W, w.alloc (.cells #[.int .u64 (pl : Int), .slice a1 p.length c1] 187) = W := ⟨_, rfl⟩
  have hWs : W.heap.size = w.heap.size + 1 := by rw [← hW]; simp
  rw [hW] at HK0 HC0 ⊢
  clear hW
  have HW0 := hide (Wn.start (Kept.refl [] W))
  rw [hWs] at HW0
  refine Calls.mono (wn_u8 245 (unhide HW0) (by decide) (by simp)) ?_
  rintro e w1 ⟨rfl, v1, h1⟩
  have HW1 := hide h1
  have c1a : w1.cell? ⟨w.heap.size, 1, none⟩ = some (.slice a1 p.length c1) := h1.kept.cell (by rw [cell_of_row _ _ _ _ _ _ (unhide HC0)]; rfl) (by simp)
  clear h1 HW0
  go_wp2_with fail
  refine Calls.mono (wn_u32 p.length (unhide HW1) (by omega) (by simp [wide_len])) ?_
  rintro e w2 ⟨rfl, v2, h2⟩
  have HW2 := hide h2
  have c2 : w2.cell? ⟨w.heap.size, 0, none⟩ = some (.int .u64 pl) := h2.kept.cell (by rw [cell_of_row _ _ _ _ _ _ (unhide HC0)]; rfl) (by simp)
  clear h2 HW1 c1a
  go_wp2_with fail
  refine Calls.mono (wn_u64 pl (unhide HW2) (by simp [wide_len])) ?_
  rintro e w3 ⟨rfl, v3, h3⟩
  have HW3 := hide h3
  have c3 : w3.cell? ⟨w.heap.size, 0, none⟩ = some (.int .u64 pl) := h3.kept.cell (by rw [cell_of_row _ _ _ _ _ _ (unhide HC0)]; rfl) (by simp)
  have c3' : w3.cell? ⟨w.heap.size, 1, none⟩ = some (.slice a1 p.length c1) := h3.kept.cell (by rw [cell_of_row _ _ _ _ _ _ (unhide HC0)]; rfl) (by simp)
  clear h3 HW2 c2
  go_wp2_with fail
  refine Calls.mono (sumOf_any pl _ p w3 ((unhide H).old ((unhide HK0).trans (unhide HW3).kept (by simp)) (by simp)) hpl hl) ?_
  rintro e w4 ⟨rfl, k4⟩
  have HW4 := hide ((unhide HW3).pass k4)
  clear k4 HW3 c3 c3'
  go_wp2_with fail
  refine Calls.mono (wn_u32 (sumF pl p) (unhide HW4) (sumF_lt (unhide H).byte) (by simp [wide_len])) ?_
  rintro e w5 ⟨rfl, v5, h5⟩
  have HW5 := hide h5
  have c5' : w5.cell? ⟨w.heap.size, 1, none⟩ = some (.slice a1 p.length c1) := h5.kept.cell (by rw [cell_of_row _ _ _ _ _ _ (unhide HC0)]; rfl) (by simp)
  clear h5 HW4
  go_wp2_with fail
  refine Calls.mono (wn_raw (unhide HW5) ((unhide H).old ((unhide HK0).trans (unhide HW5).kept (by simp)) (by simp)) (by simp [wide_len]; omega)) ?_
  rintro e w6 ⟨rfl, v6, h6⟩
  have HW6 := hide h6
  clear h6 HW5 c5'
  go_wp2_with fail
  refine Calls.mono (wn_u8 95 (unhide HW6) (by decide) (by simp [wide_len]; omega)) ?_
  rintro e w7 ⟨rfl, v7, h7⟩
  have HW7 := hide h7
  clear h7 HW6
  go_wp2_with fail
  refine Calls.mono (wn_bytes (unhide HW7) (by simp [wide_len]; omega)) ?_
  rintro e w8 ⟨v8, rfl, n8, k8⟩
  have HN8 := hide n8
  have HK8 := hide ((unhide HK0).trans k8 (by simp))
  clear n8 k8
  go_wp2
  go_ret2
  refine ⟨_, rfl, ?_, unhide HK8⟩
  have e9 : [] ++ wide 245 1 ++ wide p.length 4 ++ wide pl 8 ++ wide (sumF pl p) 4 ++ p ++ wide 95 1 = frB pl p := by
    simp [frB, wide, List.append_assoc]
  rw [e9] at HN8
  exact (unhide HN8).weak (unhide HK0).size
end Go.Proofs.YtejchncdimcdbaaGreatDoor
namespace Go.Proofs.YtejchncdimcdbaaGreatDoor
open Go.RowKit
set_option linter.unusedVariables false
set_option linter.unusedSimpArgs false

/-- A literal of an array, as a row that is known. -/
theorem f_build_as {P : Program} {ops : Array Oper} {rest : List Oper} {o : Oper} {a : Act} {w : World} {Q : Exit → Act → World → Prop} (hg : o.guard = none) (t : TypeId) (parts : Array (Nat × Operand)) (ho : o.op = .build t parts) (cs : Array Value)
    (hb : P.built t (parts.map fun (i, x) => (i, a.eval x)).toList = some cs) (h : wpList P ops Q rest (a.put o.dst (.agg cs)) w) : wpList P ops Q (o :: rest) a w :=
  wpList_build hg t parts ho (by rw [hb]; rfl) (by rw [hb]; exact h)
theorem Kept.setRow {L : List Nat} {a w : World} (h : Kept L a w) {g : Nat} (hg : g ∈ L ∨ a.heap.size ≤ g) (cs : Array Value) : Kept L a (w.setRow g cs) :=
  h.trans (M := [g]) ⟨rfl, rfl, rfl, by simp [World.setRow], fun k _ hn => setRow_other w g k _ (by simpa using hn)⟩ (by simpa using hg)
theorem f_results_cell_tmp {P : Program} {fn : Func} {p q : Tmp} {ty : TypeId} (h : fn.results = #[.cell p ty, .tmp q]) (tmps : Array Value) (w : World) (g : Nat) (t : TypeId) (cs : Array Value) (fr : Nat × Nat) (d : TypeDesc)
    (hp : tmps.getD p undef = .pointer (some ⟨g, 0, none⟩)) (hg : w.heap[g]? = some (.cells cs t fr))
    (hu : P.underlying ty = some d) (hd : (match d with | .struct _ | .array _ _ => true | _ => false) = true) (hi : (P.info? ty).map (·.size) = some cs.size) (v : Value) (hq : tmps.getD q undef = v) :
    (results fn tmps).run P w = .ok (.tuple #[.agg cs, v]) w := by
  have hp' : tmps[p]?.getD undef = .pointer (some ⟨g, 0, none⟩) := by simpa using hp
  have hq' : tmps[q]?.getD undef = v := by simpa using hq
  simp [results, h, hp', hq', asAddr, run_loadVar_row w g t ty cs fr d hg hu hd hi]
theorem put2_heap {w : World} {g : Nat} {a b : Value} {t : TypeId} (h : w.heap[g]? = some (.cells #[a, b] t (0, 0))) (x y : Value) : ((w.setCell ⟨g, 0, none⟩ x).setCell ⟨g, 1, none⟩ y).heap[g]? = some (.cells #[x, y] t (0, 0)) := by
  rw [heap_setCell_same _ g 1 _ t _ (heap_setCell_same w g 0 _ t _ h)]; rfl
theorem put2_kept {w0 w : World} (k : Kept [] w0 w) (g : Nat) (hg : w0.heap.size ≤ g) (x y : Value) : Kept [] w0 ((w.setCell ⟨g, 0, none⟩ x).setCell ⟨g, 1, none⟩ y) := (k.setCell (Or.inr hg) x).setCell (Or.inr hg) y
theorem put2_kept' (w : World) (g : Nat) (x y : Value) : Kept [g] w ((w.setCell ⟨g, 0, none⟩ x).setCell ⟨g, 1, none⟩ y) := ((Kept.refl [g] w).setCell (Or.inl (by simp)) x).setCell (Or.inl (by simp)) y
theorem Tryz.size_frame : (Tryz.prog.info? 187).map (·.size) = some 2 := by kernel_rfl

set_option maxRecDepth 100000 in
set_option maxHeartbeats 1000000 in
theorem ru32_any (b : Nat) (gv : Value) (p : List Nat) (i e : Nat) (w : World) (h : ReAt w b gv p i e) :
    Calls Tryz.prog 210 #[.pointer (some ⟨b, 0, none⟩)] w fun r w' => r = .returned (.int .u32 ((rNum p i e 4).1 % 4294967296 : Nat)) ∧ ReAt w' b gv p (rNum p i e 4).2.1 (rNum p i e 4).2.2 ∧ Kept [b] w w' := by
  have HR := hide h
  have hlt := ru_lt p i e 4
  obtain ⟨x, hx⟩ : ∃ x, (rNum p i e 4).1 = x := ⟨_, rfl⟩
  rw [hx] at hlt ⊢
  have Hx := hide hx
  clear h hx
  go_enter Tryz.func210, Tryz.ntmps210
  go_wp2_with (go_at_call 242; go_must (refine (rnum_any b gv p i e 4 _ (unhide HR) (by omega)).mono ?_; rintro r w1 ⟨rfl, h1, h2⟩; rw [unhide Hx]; have H1 := hide h1; have H2 := hide h2; clear h1 h2))
  go_ret
  exact ⟨by simp, unhide H1, unhide H2⟩

set_option maxRecDepth 100000 in
set_option maxHeartbeats 1000000 in
theorem ru64_any (b : Nat) (gv : Value) (p : List Nat) (i e : Nat) (w : World) (h : ReAt w b gv p i e) :
    Calls Tryz.prog 211 #[.pointer (some ⟨b, 0, none⟩)] w fun r w' => r = .returned (.int .u64 ((rNum p i e 8).1 : Nat)) ∧ ReAt w' b gv p (rNum p i e 8).2.1 (rNum p i e 8).2.2 ∧ Kept [b] w w' := by
  have HR := hide h
  have hlt := ru_lt p i e 8
  obtain ⟨x, hx⟩ : ∃ x, (rNum p i e 8).1 = x := ⟨_, rfl⟩
  rw [hx] at hlt ⊢
  have Hx := hide hx
  clear h hx
  go_enter Tryz.func211, Tryz.ntmps211
  go_wp2_with (go_at_call 242; go_must (refine (rnum_any b gv p i e 8 _ (unhide HR) (by omega)).mono ?_; rintro r w1 ⟨rfl, h1, h2⟩; rw [unhide Hx]; have H1 := hide h1; have H2 := hide h2; clear h1 h2))
  go_ret
  exact ⟨by simp, unhide H1, unhide H2⟩

theorem rNum_at {p : List Nat} {i n m : Nat} (hm : i + n ≤ m) (hl : m ≤ p.length) : rNum (p.take m) i 0 n = (beL ((p.drop i).take n), i + n, 0) := by
  have e : ((p.take m).drop i).take n = (p.drop i).take n := by rw [List.drop_take, List.take_take, Nat.min_eq_left (by omega)]
  unfold rNum
  rw [if_neg (by simp), if_neg (by rw [List.length_take]; omega), e]
theorem Rd.take0 {w : World} {ao : Option Addr} {cap n : Nat} {p : List Nat} (h : Rd w (.slice ao p.length cap) p) (hn : n ≤ p.length) : Rd w (.slice ao n cap) (p.take n) := by
  obtain ⟨ao', len', cap', he, _, h2, ⟨h3, h3'⟩, h4, h5, h6⟩ := h
  cases he
  refine ⟨_, _, _, rfl, by rw [List.length_take]; omega, by omega, ⟨by omega, by omega⟩, h4, fun x hx => h5 x (List.mem_of_mem_take hx), fun hp => ?_⟩
  obtain ⟨b, off, rfl, hc⟩ := h6 (by omega)
  refine ⟨b, off, rfl, fun i hi => ?_⟩
  rw [hc i (by omega), List.getD_eq_getElem?_getD, List.getD_eq_getElem?_getD, List.getElem?_take, if_pos hi]
theorem Rd.drop17 {w : World} {b off cap : Nat} {p : List Nat} (h : Rd w (.slice (some ⟨b, off, none⟩) p.length cap) p) (n : Nat) (hn : 17 + n ≤ p.length) : Rd w (.slice (some ⟨b, off + 17, none⟩) n (cap - 17)) ((p.drop 17).take n) := by
  obtain ⟨ao', len', cap', he, _, h2, ⟨h3, h3'⟩, h4, h5, h6⟩ := h
  cases he
  refine ⟨_, _, _, rfl, by rw [List.length_take, List.length_drop]; omega, by omega, ⟨by omega, by omega⟩, fun h => by simp at h, fun x hx => h5 x (List.mem_of_mem_drop (List.mem_of_mem_take hx)), fun hp => ?_⟩
  obtain ⟨b', off', e, hc⟩ := h6 (by omega)
  cases e
  refine ⟨b, off + 17, rfl, fun i hi => ?_⟩
  have := hc (17 + i) (by omega)
  rw [Nat.add_assoc, this, List.getD_eq_getElem?_getD, List.getD_eq_getElem?_getD, List.getElem?_take, if_pos hi, List.getElem?_drop]
/-- What first tells. -/
def fstPl (p : List Nat) : Nat := (firstF p).elim 0 (·.1)
def fstPay (p : List Nat) : List Nat := (firstF p).elim [] (·.2)
theorem Tryz.lt_of_beL {p : List Nat} (h : ∀ x ∈ p, x < 256) (i n : Nat) (hn : n ≤ 8) : beL ((p.drop i).take n) < 256 ^ n := by
  have := (f_wide_beL (r := (p.drop i).take n) (fun y hy => h y (List.mem_of_mem_drop (List.mem_of_mem_take hy))) (by rw [List.length_take]; omega)).2
  exact Nat.lt_of_lt_of_le this (Nat.pow_le_pow_right (by omega) (by rw [List.length_take]; omega))
theorem firstF_short {p : List Nat} (h : p.length < 18) : firstF p = none := by
  unfold firstF
  rw [if_neg]
  rintro ⟨_, h1, _, h2, _⟩
  omega

theorem getD_drop0 (p : List Nat) (h : ∀ x ∈ p, x < 256) (hp : 0 < p.length) : beL ((p.drop 0).take 1) = p.getD 0 0 := by
  cases p with
  | nil => simp at hp
  | cons a r =>
    have := h a (by simp)
    simp [beL]
    omega

set_option maxRecDepth 100000 in
set_option maxHeartbeats 1000000 in
theorem clone_any (v : Value) (p : List Nat) (w : World) (h : Rd w v p) (hp : 0 < p.length) :
    Calls Tryz.prog 212 #[v] w fun e w' => ∃ v', e = .returned v' ∧ Rd w' v' p ∧ (∀ x ∈ blk v', w.heap.size ≤ x) ∧ Kept [] w w' := by
  have H := hide h
  obtain ⟨a1, n1, c1, rfl, hn1, hc1, ⟨hc2, hc3⟩, hc4, hc5, hc6⟩ := id h
  subst hn1
  obtain ⟨b, off, rfl, _⟩ := hc6 hp
  clear h hc6 hc5 hc4
  have HO := hide (World.ownsRow_made (base := w.heap.size) (e := 5) (size := 1) w #[] 0 (Nat.le_refl _) (by unfold maxLen; omega) (by simp))
  go_enter Tryz.func212, Tryz.ntmps212
  have hq : ∀ W : World, (binOp .eql 72 (.slice (some ⟨b, off, none⟩) p.length c1) (.slice none 0 0)).run Tryz.prog W = .ok (.bool false) W := by
    intro W
    simp only [binOp]
    simp [run_equal_slice_nil W 72 5 (some ⟨b, off, none⟩) p.length c1 Tryz.underlying72]
  go_wp2_with (at_builtin; refine wpList_appendAll rfl (.tmp 5) (.tmp 6) rfl rfl _ w.heap.size (.slice (some ⟨w.heap.size, 0, none⟩) 0 0) [] p (some ⟨b, off, none⟩) p.length c1 (unhide HO) ((unhide H).old ((Kept.refl [] w).alloc _) (by simp)) (by simp; omega) (by simp) rfl rfl ?_; intro ao1 cap1 w1 HO1 HG1 HA1; simp only [List.nil_append, List.length_nil, Nat.zero_add] at HO1 HA1; have HK1 := hide (((Kept.refl [] w).alloc _).grown (unhide HG1) (by intro k hk; right; simp [Value.ownBlock] at hk; omega)); clear HG1)
  go_ret
  refine ⟨_, rfl, rd_owns (unhide HO1) (unhide H).byte hc3, ?_, unhide HK1⟩
  intro x hx
  cases ao1 with
  | none => simp [blk] at hx
  | some a => simp [blk] at hx; subst hx; exact ((unhide HO1).lt a.block rfl).1

/-- What first's payload is: new memory. -/
def NewP (w w' : World) (v : Value) (bs : List Nat) : Prop := Rd w' v bs ∧ ∀ x ∈ blk v, w.heap.size ≤ x
theorem NewP.nil (w w' : World) : NewP w w' (.slice none 0 0) [] := ⟨Rd.nil _, by simp [blk]⟩

set_option maxRecDepth 100000 in
set_option maxHeartbeats 2000000 in
theorem first_any (v : Value) (p : List Nat) (w : World) (h : Rd w v p) :
    Calls Tryz.prog 160 #[v] w fun e w' => ∃ v', e = .returned (.tuple #[.agg #[.int .u64 (fstPl p), v'], .bool (firstF p).isSome]) ∧ NewP w w' v' (fstPay p) ∧ Kept [] w w' := by
  have H := hide h
  obtain ⟨a1, n1, c1, rfl, hn1, hc1, ⟨hc2, hc3⟩, _, _, hcell⟩ := id h
  subst hn1
  clear h
  by_cases h18 : p.length < 18
  · have h18' : (p.length : Int) < 18 := by omega
    have HF := hide (firstF_short h18)
    have e1 : fstPl p = 0 := by simp [fstPl, unhide HF]
    have e2 : fstPay p = [] := by simp [fstPay, unhide HF]
    rw [e1, e2, unhide HF]
    clear e1 e2 hcell
    go_enter Tryz.func160, Tryz.ntmps160
    go_wp2
    refine bodyPost_ret (v := .tuple #[.agg #[.int .u64 0, .slice none 0 0], .bool false]) ?_ rfl ⟨_, rfl, NewP.nil _ _, (Kept.refl [] w).alloc _⟩
    exact f_results_cell_tmp rfl _ _ w.heap.size _ #[.int .u64 0, .slice none 0 0] (0, 0) _ rfl (heap_alloc_new _ _) Tryz.underlying187 rfl Tryz.size_frame _ rfl
  have h18' : ¬ (p.length : Int) < 18 := by omega
  obtain ⟨bb, off, rfl, hcl⟩ := hcell (by omega)
  have HCL := hide hcl
  clear hcell hcl
  have hb := (unhide H).byte
  have t17 := (unhide H).take0 (n := 17) (by omega)
  have HT := hide t17
  have Hn1 := hide (rNum_at (p := p) (i := 0) (n := 1) (m := 17) (by omega) (by omega))
  have Hn4 := hide (rNum_at (p := p) (i := 1) (n := 4) (m := 17) (by omega) (by omega))
  have Hn8 := hide (rNum_at (p := p) (i := 5) (n := 8) (m := 17) (by omega) (by omega))
  have Hns := hide (rNum_at (p := p) (i := 13) (n := 4) (m := 17) (by omega) (by omega))
  have ln := Tryz.lt_of_beL hb 1 4 (by omega)
  have lpl := Tryz.lt_of_beL hb 5 8 (by omega)
  have ls := Tryz.lt_of_beL hb 13 4 (by omega)
  rw [getD_drop0 p hb (by omega)] at Hn1
  have HFF := hide (rfl : firstF p = firstF p)
  unfold Hid at HFF
  conv at HFF => rhs; unfold firstF
  have lb : p.getD 0 0 < 256 := hb _ (by rw [List.getD_eq_getElem?_getD, List.getElem?_eq_getElem (show 0 < p.length by omega)]; exact List.getElem_mem _)
  obtain ⟨b0, hb0⟩ : ∃ x, p.getD 0 0 = x := ⟨_, rfl⟩
  obtain ⟨n, hn⟩ : ∃ x, beL ((p.drop 1).take 4) = x := ⟨_, rfl⟩
  obtain ⟨pl, hpl⟩ : ∃ x, beL ((p.drop 5).take 8) = x := ⟨_, rfl⟩
  obtain ⟨s, hs⟩ : ∃ x, beL ((p.drop 13).take 4) = x := ⟨_, rfl⟩
  rw [hn] at Hn4 HFF ln
  rw [hpl] at Hn8 HFF lpl
  rw [hs] at Hns HFF ls
  rw [hb0] at Hn1 HFF lb
  have HF := hide HFF
  clear HFF t17 hb0 hn hpl hs hb
  obtain ⟨X, hX⟩ : ∃ x, fstPl p = x := ⟨_, rfl⟩
  obtain ⟨Y, hY⟩ : ∃ x, fstPay p = x := ⟨_, rfl⟩
  obtain ⟨Z, hZ⟩ : ∃ x, (firstF p).isSome = x := ⟨_, rfl⟩
  rw [hX, hY, hZ]
  have HX := hide hX
  have HY := hide hY
  have HZ := hide hZ
  clear hX hY hZ
  go_enter Tryz.func160, Tryz.ntmps160
  have HZ0 := hide (heap_alloc_new w (.cells #[.int .u64 0, .slice none 0 0] 187))
  have HK0 := hide ((Kept.refl [] w).alloc (.cells #[.int .u64 0, .slice none 0 0] 187))
  go_wp2_with fail
  obtain ⟨W, hW⟩ : ∃ W, w.alloc (.cells #[.int .u64 0, .slice none 0 0] 187) = W := ⟨_, rfl⟩
  rw [hW] at HK0 HZ0 ⊢
  clear hW
  refine Calls.mono (newReader_any _ (p.take 17) W ((unhide HT).old (unhide HK0) (by simp))) ?_
  rintro e w1 ⟨b, gv, rfl, hb1, r1, hg1, k1⟩
  have HR1 := hide r1
  have HK1 := hide k1
  have Hb := hide hb1
  clear r1 k1 hg1 hb1
  go_wp2_with fail
  refine Calls.mono (ru8_any b gv (p.take 17) 0 0 w1 (unhide HR1)) ?_
  rintro e w2 ⟨rfl, r2, k2⟩
  rw [unhide Hn1] at r2 ⊢
  rw [show (b0, 0 + 1, 0).1 % 256 = b0 from Nat.mod_eq_of_lt lb]
  have HR2 := hide r2
  have HK2 := hide (((unhide HK1).trans k2 (by have := unhide Hb; simp; omega)))
  clear r2 k2 HR1 HK1
  go_wp2_with fail
  refine Calls.mono (ru32_any b gv (p.take 17) 1 0 w2 (unhide HR2)) ?_
  rintro e w3 ⟨rfl, r3, k3⟩
  rw [unhide Hn4] at r3 ⊢
  rw [show (n, 1 + 4, 0).1 % 4294967296 = n from Nat.mod_eq_of_lt ln]
  have HR3 := hide r3
  have HK3 := hide (((unhide HK2).trans k3 (by have := unhide Hb; simp; omega)))
  clear r3 k3 HR2 HK2
  go_wp2_with fail
  refine Calls.mono (ru64_any b gv (p.take 17) 5 0 w3 (unhide HR3)) ?_
  rintro e w4 ⟨rfl, r4, k4⟩
  rw [unhide Hn8] at r4 ⊢
  have HR4 := hide r4
  have HK4 := hide (((unhide HK3).trans k4 (by have := unhide Hb; simp; omega)))
  clear r4 k4 HR3 HK3
  go_wp2_with fail
  refine Calls.mono (ru32_any b gv (p.take 17) 13 0 w4 (unhide HR4)) ?_
  rintro e w5 ⟨rfl, r5, k5⟩
  rw [unhide Hns]
  rw [show (s, 13 + 4, 0).1 % 4294967296 = s from Nat.mod_eq_of_lt ls]
  have HK5 := hide (((unhide HK4).trans k5 (by have := unhide Hb; simp; omega)))
  clear r5 k5 HR4 HK4
  simp only
  have HZ5 := hide ((unhide HK5).heap (unhide HZ0) (by simp))
  have HKW := hide ((unhide HK0).trans (unhide HK5) (by simp))
  have HNO := hide (fun (h : firstF p = none) => by
    rw [← unhide HX, ← unhide HY, ← unhide HZ]
    exact ⟨by simp [fstPl, h], by simp [fstPay, h], by rw [h]; rfl⟩ : firstF p = none → X = 0 ∧ Y = [] ∧ Z = false)
  have HQ0 := hide (put2_heap (unhide HZ5) (.int .u64 0) (.slice none 0 0))
  have HKQ := hide (put2_kept (unhide HKW) w.heap.size (Nat.le_refl _) (.int .u64 0) (.slice none 0 0))
  have d0 : w5.cell? ⟨w.heap.size, 0, none⟩ = some (.int .u64 0) := by rw [cell_of_row _ _ _ _ _ _ (unhide HZ5)]; rfl
  have d1 : w5.cell? ⟨w.heap.size, 1, none⟩ = some (.slice none 0 0) := by rw [cell_of_row _ _ _ _ _ _ (unhide HZ5)]; rfl
  have f0 : w5.frozen? ⟨w.heap.size, 0, none⟩ = false := frozen_of_row _ _ _ _ _ (unhide HZ5)
  have f1 : w5.frozen? ⟨w.heap.size, 1, none⟩ = false := frozen_of_row _ _ _ _ _ (unhide HZ5)
  by_cases hA0 : b0 = 245
  · subst hA0
    by_cases hA1 : n = 0
    · have HFn := hide (unhide HNO (by rw [unhide HF, if_neg]; rintro ⟨_, h, _⟩; omega))
      subst hA1
      go_wp2
      refine bodyPost_ret (v := .tuple #[.agg #[.int .u64 0, .slice none 0 0], .bool false]) ?_ rfl ⟨_, by rw [(unhide HFn).1, (unhide HFn).2.2]; rfl, by rw [(unhide HFn).2.1]; exact NewP.nil _ _, unhide HKQ⟩
      exact f_results_cell_tmp rfl _ _ w.heap.size _ #[.int .u64 0, .slice none 0 0] (0, 0) _ rfl (unhide HQ0) Tryz.underlying187 rfl Tryz.size_frame _ rfl
    have hA1' : ((n : Int) == 0) = false := by rw [beq_eq_false_iff_ne]; omega
    by_cases hA2 : 65535 < n
    · have HFn := hide (unhide HNO (by rw [unhide HF, if_neg]; rintro ⟨_, _, h, _⟩; omega))
      have hA2' : (65535 : Int) < n := by omega
      go_wp2
      refine bodyPost_ret (v := .tuple #[.agg #[.int .u64 0, .slice none 0 0], .bool false]) ?_ rfl ⟨_, by rw [(unhide HFn).1, (unhide HFn).2.2]; rfl, by rw [(unhide HFn).2.1]; exact NewP.nil _ _, unhide HKQ⟩
      exact f_results_cell_tmp rfl _ _ w.heap.size _ #[.int .u64 0, .slice none 0 0] (0, 0) _ rfl (unhide HQ0) Tryz.underlying187 rfl Tryz.size_frame _ rfl
    have hA2' : ¬ (65535 : Int) < n := by omega
    by_cases hB : 17 + n < p.length
    · have hB' : (17 : Int) + n < p.length := by omega
      have hB2 : ¬ (p.length : Int) ≤ 17 + n := by omega
      have cE := (unhide HKW).cell (unhide HCL (17 + n) hB) (by simp)
      obtain ⟨pe, hpe⟩ : ∃ x, p.getD (17 + n) 0 = x := ⟨_, rfl⟩
      rw [hpe] at cE HF
      clear hpe
      by_cases hE : pe = 95
      · subst hE
        have HPD := hide (((unhide H).drop17 n (by omega)).old (unhide HKW) (by simp))
        go_wp2_with fail
        refine Calls.mono (sumOf_any pl _ ((p.drop 17).take n) w5 (unhide HPD) lpl (by rw [List.length_take]; omega)) ?_
        rintro e w6 ⟨rfl, k6⟩
        have HZ6 := hide (k6.heap (unhide HZ5) (by simp))
        have HKW6 := hide ((unhide HKW).trans k6 (by simp))
        have HPD6 := hide ((unhide HPD).old k6 (by simp))
        have HQ6 := hide (put2_heap (unhide HZ6) (.int .u64 0) (.slice none 0 0))
        have HKQ6 := hide (put2_kept (unhide HKW6) w.heap.size (Nat.le_refl _) (.int .u64 0) (.slice none 0 0))
        clear k6 d0 d1 f0 f1
        have d0 : w6.cell? ⟨w.heap.size, 0, none⟩ = some (.int .u64 0) := by rw [cell_of_row _ _ _ _ _ _ (unhide HZ6)]; rfl
        have d1 : w6.cell? ⟨w.heap.size, 1, none⟩ = some (.slice none 0 0) := by rw [cell_of_row _ _ _ _ _ _ (unhide HZ6)]; rfl
        have f0 : w6.frozen? ⟨w.heap.size, 0, none⟩ = false := frozen_of_row _ _ _ _ _ (unhide HZ6)
        have f1 : w6.frozen? ⟨w.heap.size, 1, none⟩ = false := frozen_of_row _ _ _ _ _ (unhide HZ6)
        obtain ⟨q, hq⟩ : ∃ q, (p.drop 17).take n = q := ⟨_, rfl⟩
        have hql : q.length = n := by rw [← hq, List.length_take, List.length_drop]; omega
        rw [hq] at HPD6 HF ⊢
        clear hq
        obtain ⟨t, ht⟩ : ∃ t, sumF pl q = t := ⟨_, rfl⟩
        rw [ht] at HF ⊢
        clear ht
        by_cases hS : t = s
        · subst hS
          have HFs := hide (by rw [unhide HF, if_pos (by simp; omega)] : firstF p = some (pl, q))
          have HV := hide (by
            rw [← unhide HX, ← unhide HY, ← unhide HZ]
            exact ⟨by simp [fstPl, unhide HFs], by simp [fstPay, unhide HFs], by rw [unhide HFs]; rfl⟩ : X = pl ∧ Y = q ∧ Z = true)
          go_wp2_with fail
          refine Calls.mono (clone_any _ q w6 (unhide HPD6) (by omega)) ?_
          rintro e w7 ⟨v7, rfl, r7, b7, k7⟩
          obtain ⟨a7, n7, c7, hv7, _⟩ := id r7
          have HZ7 := hide (k7.heap (unhide HZ6) (by simp))
          have HQ7 := hide (put2_heap (unhide HZ7) (.int .u64 pl) v7)
          have HK7 := hide ((unhide HKW6).trans k7 (by simp))
          have hlt6 : w.heap.size < w6.heap.size := lt_of_block (unhide HZ6)
          have HN7 := hide (⟨r7.kept (put2_kept' w7 w.heap.size (.int .u64 pl) v7) (by intro x hx; have := b7 x hx; simp; omega), fun x hx => by have := b7 x hx; omega⟩ : NewP w _ v7 q)
          have HKQ7 := hide (put2_kept (unhide HK7) w.heap.size (Nat.le_refl _) (.int .u64 pl) v7)
          clear k7 d0 d1 f0 f1 r7 b7
          subst hv7
          have d0 : w7.cell? ⟨w.heap.size, 0, none⟩ = some (.int .u64 0) := by rw [cell_of_row _ _ _ _ _ _ (unhide HZ7)]; rfl
          have d1 : w7.cell? ⟨w.heap.size, 1, none⟩ = some (.slice none 0 0) := by rw [cell_of_row _ _ _ _ _ _ (unhide HZ7)]; rfl
          have f0 : w7.frozen? ⟨w.heap.size, 0, none⟩ = false := frozen_of_row _ _ _ _ _ (unhide HZ7)
          have f1 : w7.frozen? ⟨w.heap.size, 1, none⟩ = false := frozen_of_row _ _ _ _ _ (unhide HZ7)
          go_wp2
          refine bodyPost_ret (v := .tuple #[.agg #[.int .u64 pl, .slice a7 n7 c7], .bool true]) ?_ rfl ⟨.slice a7 n7 c7, by rw [(unhide HV).1, (unhide HV).2.2], by rw [(unhide HV).2.1]; exact unhide HN7, unhide HKQ7⟩
          exact f_results_cell_tmp rfl _ _ w.heap.size _ #[.int .u64 pl, .slice a7 n7 c7] (0, 0) _ rfl (unhide HQ7) Tryz.underlying187 rfl Tryz.size_frame _ rfl
        · have hS' : ((t : Int) != s) = true := by rw [bne_iff_ne]; omega
          have HFn := hide (unhide HNO (by rw [unhide HF, if_neg]; rintro ⟨_, _, _, _, _, h⟩; exact hS h))
          go_wp2
          refine bodyPost_ret (v := .tuple #[.agg #[.int .u64 0, .slice none 0 0], .bool false]) ?_ rfl ⟨_, by rw [(unhide HFn).1, (unhide HFn).2.2]; rfl, by rw [(unhide HFn).2.1]; exact NewP.nil _ _, unhide HKQ6⟩
          exact f_results_cell_tmp rfl _ _ w.heap.size _ #[.int .u64 0, .slice none 0 0] (0, 0) _ rfl (unhide HQ6) Tryz.underlying187 rfl Tryz.size_frame _ rfl
      · have hE' : ((pe : Int) != 95) = true := by rw [bne_iff_ne]; omega
        have HFn := hide (unhide HNO (by rw [unhide HF, if_neg]; rintro ⟨_, _, _, _, h, _⟩; exact hE h))
        go_wp2
        refine bodyPost_ret (v := .tuple #[.agg #[.int .u64 0, .slice none 0 0], .bool false]) ?_ rfl ⟨_, by rw [(unhide HFn).1, (unhide HFn).2.2]; rfl, by rw [(unhide HFn).2.1]; exact NewP.nil _ _, unhide HKQ⟩
        exact f_results_cell_tmp rfl _ _ w.heap.size _ #[.int .u64 0, .slice none 0 0] (0, 0) _ rfl (unhide HQ0) Tryz.underlying187 rfl Tryz.size_frame _ rfl
    · have hB' : (p.length : Int) ≤ 17 + n := by omega
      have HFn := hide (unhide HNO (by rw [unhide HF, if_neg]; rintro ⟨_, _, _, h, _⟩; exact hB h))
      go_wp2
      refine bodyPost_ret (v := .tuple #[.agg #[.int .u64 0, .slice none 0 0], .bool false]) ?_ rfl ⟨_, by rw [(unhide HFn).1, (unhide HFn).2.2]; rfl, by rw [(unhide HFn).2.1]; exact NewP.nil _ _, unhide HKQ⟩
      exact f_results_cell_tmp rfl _ _ w.heap.size _ #[.int .u64 0, .slice none 0 0] (0, 0) _ rfl (unhide HQ0) Tryz.underlying187 rfl Tryz.size_frame _ rfl
  · have hA0' : ((b0 : Int) != 245) = true := by rw [bne_iff_ne]; omega
    have HFn := hide (unhide HNO (by rw [unhide HF, if_neg]; rintro ⟨h, _⟩; exact hA0 h))
    go_wp2
    refine bodyPost_ret (v := .tuple #[.agg #[.int .u64 0, .slice none 0 0], .bool false]) ?_ rfl ⟨_, by rw [(unhide HFn).1, (unhide HFn).2.2]; rfl, by rw [(unhide HFn).2.1]; exact NewP.nil _ _, unhide HKQ⟩
    exact f_results_cell_tmp rfl _ _ w.heap.size _ #[.int .u64 0, .slice none 0 0] (0, 0) _ rfl (unhide HQ0) Tryz.underlying187 rfl Tryz.size_frame _ rfl
end Go.Proofs.YtejchncdimcdbaaGreatDoor

/-
  Laws for drawn regions with a late store, by genchain.py. No program.
-/
namespace Go.Proofs.YtejchncdimcdbaaGreatDoor
open Go Go.RowKit Go.BigFrame
set_option linter.unusedVariables false
set_option linter.unusedSimpArgs false
section
variable {P : Program} {Q : Exit → Act → World → Prop}
theorem wp_se15 {id : Nat} {o0 o1 o2 o3 o4 o5 o6 o7 o8 o9 o10 o11 o12 o13 o14 : Oper} {a : Act} {w : World} (hm : P.follows .mixedOrders = true) (hs : Region.noSelect #[o0, o1, o2, o3, o4, o5, o6, o7, o8, o9, o10, o11, o12, o13, o14] = true)
    (f0 : Region.free .any #[o0, o1, o2, o3, o4, o5, o6, o7, o8, o9, o10, o11, o12, o13, o14] #[false, false, false, false, false, false, false, false, false, false, false, false, false, false, false] 0 = true) (r0 : (Region.ready .any #[o0, o1, o2, o3, o4, o5, o6, o7, o8, o9, o10, o11, o12, o13, o14] #[false, false, false, false, false, false, false, false, false, false, false, false, false, false, false]).contains 0 = true) (e0 : o14.after.any (fun e => Region.binds .any e && e.on == 0) = true)
    (f1 : Region.free .any #[o0, o1, o2, o3, o4, o5, o6, o7, o8, o9, o10, o11, o12, o13, o14] #[true, false, false, false, false, false, false, false, false, false, false, false, false, false, false] 1 = true) (r1 : (Region.ready .any #[o0, o1, o2, o3, o4, o5, o6, o7, o8, o9, o10, o11, o12, o13, o14] #[true, false, false, false, false, false, false, false, false, false, false, false, false, false, false]).contains 1 = true) (e1 : o14.after.any (fun e => Region.binds .any e && e.on == 1) = true)
    (f2 : Region.free .any #[o0, o1, o2, o3, o4, o5, o6, o7, o8, o9, o10, o11, o12, o13, o14] #[true, true, false, false, false, false, false, false, false, false, false, false, false, false, false] 2 = true) (r2 : (Region.ready .any #[o0, o1, o2, o3, o4, o5, o6, o7, o8, o9, o10, o11, o12, o13, o14] #[true, true, false, false, false, false, false, false, false, false, false, false, false, false, false]).contains 2 = true) (e2 : o14.after.any (fun e => Region.binds .any e && e.on == 2) = true)
    (f3 : Region.free .any #[o0, o1, o2, o3, o4, o5, o6, o7, o8, o9, o10, o11, o12, o13, o14] #[true, true, true, false, false, false, false, false, false, false, false, false, false, false, false] 3 = true) (r3 : (Region.ready .any #[o0, o1, o2, o3, o4, o5, o6, o7, o8, o9, o10, o11, o12, o13, o14] #[true, true, true, false, false, false, false, false, false, false, false, false, false, false, false]).contains 3 = true) (e3 : o14.after.any (fun e => Region.binds .any e && e.on == 3) = true)
    (f4 : Region.free .any #[o0, o1, o2, o3, o4, o5, o6, o7, o8, o9, o10, o11, o12, o13, o14] #[true, true, true, true, false, false, false, false, false, false, false, false, false, false, false] 4 = true) (r4 : (Region.ready .any #[o0, o1, o2, o3, o4, o5, o6, o7, o8, o9, o10, o11, o12, o13, o14] #[true, true, true, true, false, false, false, false, false, false, false, false, false, false, false]).contains 4 = true) (e4 : o14.after.any (fun e => Region.binds .any e && e.on == 4) = true)
    (f5 : Region.free .any #[o0, o1, o2, o3, o4, o5, o6, o7, o8, o9, o10, o11, o12, o13, o14] #[true, true, true, true, true, false, false, false, false, false, false, false, false, false, false] 5 = true) (r5 : (Region.ready .any #[o0, o1, o2, o3, o4, o5, o6, o7, o8, o9, o10, o11, o12, o13, o14] #[true, true, true, true, true, false, false, false, false, false, false, false, false, false, false]).contains 5 = true) (e5 : o14.after.any (fun e => Region.binds .any e && e.on == 5) = true)
    (f6 : Region.free .any #[o0, o1, o2, o3, o4, o5, o6, o7, o8, o9, o10, o11, o12, o13, o14] #[true, true, true, true, true, true, false, false, false, false, false, false, false, false, false] 6 = true) (r6 : (Region.ready .any #[o0, o1, o2, o3, o4, o5, o6, o7, o8, o9, o10, o11, o12, o13, o14] #[true, true, true, true, true, true, false, false, false, false, false, false, false, false, false]).contains 6 = true) (e6 : o14.after.any (fun e => Region.binds .any e && e.on == 6) = true)
    (f7 : Region.free .any #[o0, o1, o2, o3, o4, o5, o6, o7, o8, o9, o10, o11, o12, o13, o14] #[true, true, true, true, true, true, true, false, false, false, false, false, false, false, false] 7 = true) (r7 : (Region.ready .any #[o0, o1, o2, o3, o4, o5, o6, o7, o8, o9, o10, o11, o12, o13, o14] #[true, true, true, true, true, true, true, false, false, false, false, false, false, false, false]).contains 7 = true) (e7 : o14.after.any (fun e => Region.binds .any e && e.on == 7) = true)
    (f8 : Region.free .any #[o0, o1, o2, o3, o4, o5, o6, o7, o8, o9, o10, o11, o12, o13, o14] #[true, true, true, true, true, true, true, true, false, false, false, false, false, false, false] 8 = true) (r8 : (Region.ready .any #[o0, o1, o2, o3, o4, o5, o6, o7, o8, o9, o10, o11, o12, o13, o14] #[true, true, true, true, true, true, true, true, false, false, false, false, false, false, false]).contains 8 = true) (e8 : o14.after.any (fun e => Region.binds .any e && e.on == 8) = true)
    (f9 : Region.free .any #[o0, o1, o2, o3, o4, o5, o6, o7, o8, o9, o10, o11, o12, o13, o14] #[true, true, true, true, true, true, true, true, true, false, false, false, false, false, false] 9 = true) (r9 : (Region.ready .any #[o0, o1, o2, o3, o4, o5, o6, o7, o8, o9, o10, o11, o12, o13, o14] #[true, true, true, true, true, true, true, true, true, false, false, false, false, false, false]).contains 9 = true) (e9 : o14.after.any (fun e => Region.binds .any e && e.on == 9) = true)
    (q10 : Region.ready .any #[o0, o1, o2, o3, o4, o5, o6, o7, o8, o9, o10, o11, o12, o13, o14] #[true, true, true, true, true, true, true, true, true, true, false, false, false, false, false] = [10]) (g10 : o10.guard = none)
    (q11 : Region.ready .any #[o0, o1, o2, o3, o4, o5, o6, o7, o8, o9, o10, o11, o12, o13, o14] #[true, true, true, true, true, true, true, true, true, true, true, false, false, false, false] = [11]) (g11 : o11.guard = none)
    (q12 : Region.ready .any #[o0, o1, o2, o3, o4, o5, o6, o7, o8, o9, o10, o11, o12, o13, o14] #[true, true, true, true, true, true, true, true, true, true, true, true, false, false, false] = [12]) (g12 : o12.guard = none)
    (q13 : Region.ready .any #[o0, o1, o2, o3, o4, o5, o6, o7, o8, o9, o10, o11, o12, o13, o14] #[true, true, true, true, true, true, true, true, true, true, true, true, true, false, false] = [13]) (g13 : o13.guard = none)
    (q14 : Region.ready .any #[o0, o1, o2, o3, o4, o5, o6, o7, o8, o9, o10, o11, o12, o13, o14] #[true, true, true, true, true, true, true, true, true, true, true, true, true, true, false] = [14]) (g14 : o14.guard = none)
    (rr : Region.ready .any #[o0, o1, o2, o3, o4, o5, o6, o7, o8, o9, o10, o11, o12, o13, o14] #[true, true, true, true, true, true, true, true, true, true, true, true, true, true, true] = [])
    (v0 v1 v2 v3 v4 v5 v6 v7 v8 v9 : Value) (A0 A1 A2 A3 A4 A5 A6 A7 A8 A9 : Act) (T : World → Prop)
    (I0 : World → Prop)
    (I1 : Value → World → Prop)
    (I2 : Value → Value → World → Prop)
    (I3 : Value → Value → Value → World → Prop)
    (I4 : Value → Value → Value → Value → World → Prop)
    (IE : Value → Value → Value → Value → World → Prop)
    (p0 : a.put o0.dst v0 = A0) (hy0 : YieldsIf P #[o0, o1, o2, o3, o4, o5, o6, o7, o8, o9, o10, o11, o12, o13, o14] T o0 v0 a)
    (p1 : A0.put o1.dst v1 = A1) (hy1 : YieldsIf P #[o0, o1, o2, o3, o4, o5, o6, o7, o8, o9, o10, o11, o12, o13, o14] T o1 v1 A0)
    (p2 : A1.put o2.dst v2 = A2) (hy2 : YieldsIf P #[o0, o1, o2, o3, o4, o5, o6, o7, o8, o9, o10, o11, o12, o13, o14] T o2 v2 A1)
    (p3 : A2.put o3.dst v3 = A3) (hy3 : YieldsIf P #[o0, o1, o2, o3, o4, o5, o6, o7, o8, o9, o10, o11, o12, o13, o14] T o3 v3 A2)
    (p4 : A3.put o4.dst v4 = A4) (hy4 : YieldsIf P #[o0, o1, o2, o3, o4, o5, o6, o7, o8, o9, o10, o11, o12, o13, o14] T o4 v4 A3)
    (p5 : A4.put o5.dst v5 = A5) (hy5 : YieldsIf P #[o0, o1, o2, o3, o4, o5, o6, o7, o8, o9, o10, o11, o12, o13, o14] T o5 v5 A4)
    (p6 : A5.put o6.dst v6 = A6) (hy6 : YieldsIf P #[o0, o1, o2, o3, o4, o5, o6, o7, o8, o9, o10, o11, o12, o13, o14] T o6 v6 A5)
    (p7 : A6.put o7.dst v7 = A7) (hy7 : YieldsIf P #[o0, o1, o2, o3, o4, o5, o6, o7, o8, o9, o10, o11, o12, o13, o14] T o7 v7 A6)
    (p8 : A7.put o8.dst v8 = A8) (hy8 : YieldsIf P #[o0, o1, o2, o3, o4, o5, o6, o7, o8, o9, o10, o11, o12, o13, o14] T o8 v8 A7)
    (p9 : A8.put o9.dst v9 = A9) (hy9 : YieldsIf P #[o0, o1, o2, o3, o4, o5, o6, o7, o8, o9, o10, o11, o12, o13, o14] T o9 v9 A8)
    (i0 : I0 w.drew)
    (hIT : (∀ w', I0  w' → T w') ∧ (∀ (u0 : Value) w', I1 u0 w' → T w') ∧ (∀ (u0 u1 : Value) w', I2 u0 u1 w' → T w') ∧ (∀ (u0 u1 u2 : Value) w', I3 u0 u1 u2 w' → T w') ∧ (∀ (u0 u1 u2 u3 : Value) w', I4 u0 u1 u2 u3 w' → T w'))
    (s0 : ∀ w', I0  w' → ∀ K : Act → World → Prop, (∀ (u0 : Value) w2, I1 u0 w2 → K (A9.put o10.dst u0) w2) → o10.wp P A9 w' K (NoPanic Q))
    (s1 : ∀ (u0 : Value) w', I1 u0 w' → ∀ K : Act → World → Prop, (∀ (u1 : Value) w2, I2 u0 u1 w2 → K ((A9.put o10.dst u0).put o11.dst u1) w2) → o11.wp P (A9.put o10.dst u0) w' K (NoPanic Q))
    (s2 : ∀ (u0 u1 : Value) w', I2 u0 u1 w' → ∀ K : Act → World → Prop, (∀ (u2 : Value) w2, I3 u0 u1 u2 w2 → K (((A9.put o10.dst u0).put o11.dst u1).put o12.dst u2) w2) → o12.wp P ((A9.put o10.dst u0).put o11.dst u1) w' K (NoPanic Q))
    (s3 : ∀ (u0 u1 u2 : Value) w', I3 u0 u1 u2 w' → ∀ K : Act → World → Prop, (∀ (u3 : Value) w2, I4 u0 u1 u2 u3 w2 → K ((((A9.put o10.dst u0).put o11.dst u1).put o12.dst u2).put o13.dst u3) w2) → o13.wp P (((A9.put o10.dst u0).put o11.dst u1).put o12.dst u2) w' K (NoPanic Q))
    (se : ∀ (u0 u1 u2 u3 : Value) w', I4 u0 u1 u2 u3 w' → ∀ K : Act → World → Prop, (∀ w2, IE u0 u1 u2 u3 w2 → K ((((A9.put o10.dst u0).put o11.dst u1).put o12.dst u2).put o13.dst u3) w2) → o14.wp P ((((A9.put o10.dst u0).put o11.dst u1).put o12.dst u2).put o13.dst u3) w' K (NoPanic Q))
    (h : ∀ (u0 u1 u2 u3 : Value) w', IE u0 u1 u2 u3 w' → Q .normal ((((A9.put o10.dst u0).put o11.dst u1).put o12.dst u2).put o13.dst u3) w') :
    (Code.region id #[o0, o1, o2, o3, o4, o5, o6, o7, o8, o9, o10, o11, o12, o13, o14] true).wp P Q a w := by
  subst p0 p1 p2 p3 p4 p5 p6 p7 p8 p9
  obtain ⟨z0, z1, z2, z3, z4⟩ := hIT
  refine wp_region_noPanic ?_
  refine wp_region_any hm ?_
  refine AnyL.any (S := fun d w' => d.getD 14 true = false → T w') _ _ _ _ ?_
  show AnyL P .any #[o0, o1, o2, o3, o4, o5, o6, o7, o8, o9, o10, o11, o12, o13, o14] (NoPanic Q) _ 15 #[false, false, false, false, false, false, false, false, false, false, false, false, false, false, false] a w.drew
  have hSi : ∀ i, i ≠ 14 → ∀ (d : Array Bool) (w' : World), ((d.setIfInBounds i true).getD 14 true = false → T w') ↔ (d.getD 14 true = false → T w') := by
    intro i h4 d w'
    rw [getD_set_ne true h4]
  refine AnyL.take (i := 0) (t := 14) (oi := o0) (ot := o14) (T := T) rfl rfl (by decide) hs f0 r0 e0 (fun _ _ _ h => h) (fun d w' h9 hd => h9 hd) (hSi 0 (by decide)) hy0 rfl (fun _ => z0 _ i0) ?_
  refine AnyL.take (i := 1) (t := 14) (oi := o1) (ot := o14) (T := T) rfl rfl (by decide) hs f1 r1 e1 (fun _ _ _ h => h) (fun d w' h9 hd => h9 hd) (hSi 1 (by decide)) hy1 rfl (fun _ => z0 _ i0) ?_
  refine AnyL.take (i := 2) (t := 14) (oi := o2) (ot := o14) (T := T) rfl rfl (by decide) hs f2 r2 e2 (fun _ _ _ h => h) (fun d w' h9 hd => h9 hd) (hSi 2 (by decide)) hy2 rfl (fun _ => z0 _ i0) ?_
  refine AnyL.take (i := 3) (t := 14) (oi := o3) (ot := o14) (T := T) rfl rfl (by decide) hs f3 r3 e3 (fun _ _ _ h => h) (fun d w' h9 hd => h9 hd) (hSi 3 (by decide)) hy3 rfl (fun _ => z0 _ i0) ?_
  refine AnyL.take (i := 4) (t := 14) (oi := o4) (ot := o14) (T := T) rfl rfl (by decide) hs f4 r4 e4 (fun _ _ _ h => h) (fun d w' h9 hd => h9 hd) (hSi 4 (by decide)) hy4 rfl (fun _ => z0 _ i0) ?_
  refine AnyL.take (i := 5) (t := 14) (oi := o5) (ot := o14) (T := T) rfl rfl (by decide) hs f5 r5 e5 (fun _ _ _ h => h) (fun d w' h9 hd => h9 hd) (hSi 5 (by decide)) hy5 rfl (fun _ => z0 _ i0) ?_
  refine AnyL.take (i := 6) (t := 14) (oi := o6) (ot := o14) (T := T) rfl rfl (by decide) hs f6 r6 e6 (fun _ _ _ h => h) (fun d w' h9 hd => h9 hd) (hSi 6 (by decide)) hy6 rfl (fun _ => z0 _ i0) ?_
  refine AnyL.take (i := 7) (t := 14) (oi := o7) (ot := o14) (T := T) rfl rfl (by decide) hs f7 r7 e7 (fun _ _ _ h => h) (fun d w' h9 hd => h9 hd) (hSi 7 (by decide)) hy7 rfl (fun _ => z0 _ i0) ?_
  refine AnyL.take (i := 8) (t := 14) (oi := o8) (ot := o14) (T := T) rfl rfl (by decide) hs f8 r8 e8 (fun _ _ _ h => h) (fun d w' h9 hd => h9 hd) (hSi 8 (by decide)) hy8 rfl (fun _ => z0 _ i0) ?_
  refine AnyL.take (i := 9) (t := 14) (oi := o9) (ot := o14) (T := T) rfl rfl (by decide) hs f9 r9 e9 (fun _ _ _ h => h) (fun d w' h9 hd => h9 hd) (hSi 9 (by decide)) hy9 rfl (fun _ => z0 _ i0) ?_
  refine AnyL.forced q10 rfl g10 (fun K hK => s0  w.drew i0 K (fun u0 w1 i1 => hK _ _ (fun _ => z1 u0 w1 i1) ?_))
  refine AnyL.forced q11 rfl g11 (fun K hK => s1 u0 w1 i1 K (fun u1 w2 i2 => hK _ _ (fun _ => z2 u0 u1 w2 i2) ?_))
  refine AnyL.forced q12 rfl g12 (fun K hK => s2 u0 u1 w2 i2 K (fun u2 w3 i3 => hK _ _ (fun _ => z3 u0 u1 u2 w3 i3) ?_))
  refine AnyL.forced q13 rfl g13 (fun K hK => s3 u0 u1 u2 w3 i3 K (fun u3 w4 i4 => hK _ _ (fun _ => z4 u0 u1 u2 u3 w4 i4) ?_))
  refine AnyL.forced q14 rfl g14 (fun K hK => se u0 u1 u2 u3 w4 i4 K (fun we ie => hK _ _ (fun h9 => (by cases h9)) ?_))
  exact ⟨rr, NoPanic.normal (h u0 u1 u2 u3 we ie)⟩

end
end Go.Proofs.YtejchncdimcdbaaGreatDoor
/-
  One operation: a call, by its contract.
-/
namespace Go.Proofs.YtejchncdimcdbaaGreatDoor
open Go Go.RowKit Go.BigFrame
set_option linter.unusedVariables false
set_option linter.unusedSimpArgs false

theorem wp_callN {o : Oper} {a : Act} {w : World} {K : Act → World → Prop} {Q : Exit → Act → World → Prop} {f : FuncId} {xs : Array Operand} {ts : Array TypeId} (ho : o.op = .call { callee := .value (.func f), args := xs, argTypes := ts })
    (hcl : ∀ args W, (callFunc f args).run Tryz.prog W = .ok (.enter f args) W) (us : List Value) (he : xs.toList.map a.eval = us) {R : Ending → World → Prop}
    (hc : Calls Tryz.prog f us.toArray w R) (h : ∀ e w', R e w' → ∃ v, e = .returned v ∧ K (a.put o.dst v) w') : o.wp Tryz.prog a w K Q := by
  have he2 : xs.map a.eval = us.toArray := by rw [← he]; cases xs; simp only [List.map_toArray]
  unfold Oper.wp execOp
  simp only [ho]
  have hf : a.eval (.func f) = .func (.func f) #[] #[] := rfl
  simp only [resolve, invoke, hf, he2, Sem.run_bind, Sem.run_pure, Result.andThen_ok, hcl]
  simp [Deferred.ofValue, hcl, go_sem]
  refine hc.mono ?_
  intro e w2 h2
  obtain ⟨v, rfl, h3⟩ := h e w2 h2
  exact h3
end Go.Proofs.YtejchncdimcdbaaGreatDoor
namespace Go.Proofs.YtejchncdimcdbaaGreatDoor
open Go.RowKit Go.BigFrame
set_option linter.unusedVariables false
set_option linter.unusedSimpArgs false

theorem wp_appendZ {o : Oper} {a : Act} {w : World} {K : Act → World → Prop} {Q : Exit → Act → World → Prop} {s x : Operand} (ho : o.op = .call { callee := .builtin .append, args := #[s, x], argTypes := #[72, 3] }) (hty : o.type = 72) {v u r : Value} {w1 : World} (hs : a.eval s = v) (hx : a.eval x = u)
    (hrun : (Builtin.append_ #[72, 3] 72 #[v, u]).run Tryz.prog w = .ok r w1) (hK : K (a.put o.dst r) w1) : o.wp Tryz.prog a w K Q := by
  unfold Oper.wp execOp
  simp only [ho, hty, resolve, invoke, builtin, Sem.run_bind, Sem.run_pure, Result.andThen_ok, List.map_toArray, List.map_cons, List.map_nil, hs, hx, hrun]
  exact hK

set_option maxRecDepth 100000 in
set_option maxHeartbeats 1000000 in
theorem settle_torn (f : DFile) (w : World) (kn : ByteArray) (kb : Int) (sec : Nat) (hf : FileAt w f) (hlen : f.bs.length ≤ 140737488350000) (n : Nat) (hn : n = f.sy + (wtn kb ((f.bs.length : Int) - f.sy)).toNat) (hlt : n < f.bs.length) (hs1 : 1 ≤ sec) (hs2 : sec ≤ 4096) :
    Calls Tryz.prog 77 #[.pointer (some ⟨f.g, 0, none⟩), .agg #[.string kn, .int .i64 kb, .bool true], .int .i64 sec] w fun e w' => ∃ v', e = .returned (.tuple #[]) ∧ FileAt w' { f with v := v', bs := f.bs.take n ++ List.replicate (tse n sec) 0, sy := n + tse n sec } ∧ Kept (f.g :: blk f.v) w w' ∧ ∀ x ∈ blk v', x ∈ blk f.v ∨ w.heap.size ≤ x := by
  have k0 := (Kept.refl [] w).alloc (.cells #[.string kn, .int .i64 kb, .bool true] 157 (0, 0))
  have hkr := heap_alloc_new w (.cells #[.string kn, .int .i64 kb, .bool true] 157 (0, 0))
  replace hf := hf.kept k0 (by simp) (by simp)
  have HKR := hide hkr
  have HK0 := hide k0
  clear k0 hkr
  have HF := hide hf
  have c1 := cell_of_row _ _ 1 _ _ _ hf.1
  have c2 := cell_of_row _ _ 2 _ _ _ hf.1
  simp at c1 c2
  have hz1 := frozen_of_row _ _ 1 _ _ hf.1
  have hz2 := frozen_of_row _ _ 2 _ _ hf.1
  obtain ⟨g0, cap, hv⟩ : ∃ g0 cap, f.v = .slice (some ⟨g0, 0, none⟩) f.bs.length cap := by
    rcases hf.2.1.2 with ⟨_, h0⟩ | ⟨g0, c0, cur, h1, _⟩
    · omega
    · exact ⟨g0, c0, h1⟩
  rw [hv] at c1
  have hsy := hf.2.2.2
  have hcap := owns_le hf.2.1 hv
  clear hf
  obtain ⟨k, hk⟩ : ∃ k : Nat, wtn kb ((f.bs.length : Int) - f.sy) = k := ⟨(wtn kb ((f.bs.length : Int) - f.sy)).toNat, by unfold wtn; omega⟩
  have hkn : f.sy + k ≤ f.bs.length := by unfold wtn at hk; omega
  have hwt := fun x : World => within_any kb ((f.bs.length : Int) - f.sy) x
  simp only [hk] at hwt
  have HWT := hide hwt
  have HKK := hide hk
  clear hwt hk
  go_enter Tryz.func77, Tryz.ntmps77
  go_wp2_with fail
  obtain ⟨W0, hW0⟩ : ∃ W, w.alloc (.cells #[.string kn, .int .i64 kb, .bool true] 157 (0, 0)) = W := ⟨_, rfl⟩
  rw [hW0] at HK0 HKR HF c1 c2 hz1 hz2 ⊢
  clear hW0
  have e1 := cell_of_row _ _ 1 _ _ _ (unhide HKR)
  have e2 := cell_of_row _ _ 2 _ _ _ (unhide HKR)
  simp at e1 e2
  refine wp_quiet_tail 16 (by kernel_rfl) (by kernel_rfl) ?_
  simp only [List.take_succ_cons, List.take_zero, List.drop_succ_cons, List.drop_zero]
  repeat (go_big_quiet_step (exact Calls.mono (unhide HWT _) (fun e x h => ⟨h.1, _, h.2⟩)))
  refine wpQuiet_nil ?_
  rintro _ ⟨n1, rfl⟩
  go_wp2_with fail
  have HK1 := hide ((((Kept.refl [f.g] W0).drewN n1)).setCell (p := ⟨f.g, 2, none⟩) (.inl (by simp)) (.int .i64 ((f.sy : Int) + k)))
  have HG1 := hide (heap_setCell_same (W0.drewN n1) _ 2 _ _ (.int .i64 ((f.sy : Int) + k)) (unhide HF).1)
  have HGW := hide (cells_ne (unhide HKR) (unhide HF).1 (by decide))
  obtain ⟨W1, hW1⟩ : ∃ W, (W0.drewN n1).setCell ⟨f.g, 2, none⟩ (.int .i64 ((f.sy : Int) + k)) = W := ⟨_, rfl⟩
  rw [hW1] at HK1 HG1 ⊢
  clear hW1 c1 c2 e1 e2 hz1 hz2
  have HKR1 := hide ((unhide HK1).heap (unhide HKR) (by simpa using unhide HGW))
  have c1 := cell_of_row _ _ 1 _ _ _ (unhide HG1)
  have c2 := cell_of_row _ _ 2 _ _ _ (unhide HG1)
  simp at c1 c2
  rw [hv] at c1
  have hz1 := frozen_of_row _ _ 1 _ _ (unhide HG1)
  have hcl : (f.sy : Int) + k ≤ (cap : Int) := by omega
  have hnn : ¬ (f.sy : Int) + k < 0 := by omega
  refine wp_quiet_tail 12 (by kernel_rfl) (by kernel_rfl) ?_
  simp only [List.take_succ_cons, List.take_zero, List.drop_succ_cons, List.drop_zero]
  repeat (go_big_quiet_step (fail))
  refine wpQuiet_nil ?_
  rintro _ ⟨n2, rfl⟩
  have hgw := unhide HGW
  have hwg := fun e => unhide HGW (Eq.symm e)
  have e2 := cell_of_row _ _ 2 _ _ _ (unhide HKR1)
  simp at e2
  have hz2 := frozen_of_row _ _ 2 _ _ (unhide HG1)
  have hnk : n = f.sy + k := by rw [hn, unhide HKK]; simp
  subst hnk
  clear hn
  have hl2 : (f.sy : Int) + k < f.bs.length := by omega
  go_wp2_with fail
  have HG2 := hide (heap_setCell_same (W1.drewN n2) _ 1 _ _ (.slice (some ⟨g0, 0, none⟩) (f.sy + k) cap) (unhide HG1))
  have HK2 := hide (((unhide HK1).drewN n2).setCell (p := ⟨f.g, 1, none⟩) (.inl (by simp)) (.slice (some ⟨g0, 0, none⟩) (f.sy + k) cap))
  obtain ⟨W2, hW2⟩ : ∃ W, (W1.drewN n2).setCell ⟨f.g, 1, none⟩ (.slice (some ⟨g0, 0, none⟩) (f.sy + k) cap) = W := ⟨_, rfl⟩
  rw [hW2] at HK2 HG2 ⊢
  clear hW2 c1 c2 e2 hz1 hz2
  have c1 := cell_of_row _ _ 1 _ _ _ (unhide HG2)
  have c2 := cell_of_row _ _ 2 _ _ _ (unhide HG2)
  simp at c1 c2
  have HTS := hide (fun x : World => (by
    have := toSectorEnd_any (f.sy + k) sec x (by omega) hs1 hs2
    rw [show ((f.sy + k : Nat) : Int) = (f.sy : Int) + k by omega] at this
    exact this : Calls Tryz.prog 125 #[.int .i64 ((f.sy : Int) + k), .int .i64 sec] x fun e w' => e = .returned (.int .i64 (tse (f.sy + k) sec : Nat)) ∧ w' = x))
  have hfile := unhide HF
  have htse : tse (f.sy + k) sec < sec := Nat.mod_lt _ (by omega)
  obtain ⟨q, hq⟩ : ∃ q, f.bs.take (f.sy + k) = q := ⟨_, rfl⟩
  have hql : q.length = f.sy + k := by rw [← hq, List.length_take]; omega
  have hqb : ∀ x ∈ q, x < 256 := by rw [← hq]; exact fun x hx => hfile.2.2.1 x (List.mem_of_mem_take hx)
  have hgb : f.g ≠ g0 := by
    obtain ⟨cs, hc⟩ := owns_cells hfile.2.1 (x := g0) (by rw [hv]; simp [blk])
    exact cells_ne hfile.1 hc (by decide)
  have HOQ := hide ((unhide HK2).owns (owns_cut (by rw [← hv]; exact hfile.2.1) (f.sy + k) hkn) (by
    intro x hx
    injection hx with hx
    subst hx
    simpa using fun e => hgb e.symm))
  rw [hq, show (Value.slice (some ⟨g0, 0, none⟩) (f.sy + k) cap) = .slice (some ⟨g0, 0, none⟩) q.length cap by rw [hql]] at HOQ
  obtain ⟨M, hM⟩ : ∃ M, tse (f.sy + k) sec = M := ⟨_, rfl⟩
  rw [hM] at htse
  simp only [hM] at HTS
  have HM := hide hM
  have HQ := hide hq
  have HQL := hide hql
  have HQB := hide hqb
  have HGB := hide hgb
  have HFL := hide hfile
  have HML := hide (by rw [hql]; omega : q.length + M ≤ 140737488355328)
  clear hfile hq hql hqb hgb HWT hM
  refine wp_se15 (by kernel_rfl) (by kernel_rfl) (by kernel_rfl) (by kernel_rfl) (by kernel_rfl) (by kernel_rfl) (by kernel_rfl) (by kernel_rfl) (by kernel_rfl) (by kernel_rfl) (by kernel_rfl) (by kernel_rfl) (by kernel_rfl) (by kernel_rfl) (by kernel_rfl) (by kernel_rfl) (by kernel_rfl) (by kernel_rfl) (by kernel_rfl) (by kernel_rfl) (by kernel_rfl) (by kernel_rfl) (by kernel_rfl) (by kernel_rfl) (by kernel_rfl) (by kernel_rfl) (by kernel_rfl) (by kernel_rfl) (by kernel_rfl) (by kernel_rfl) (by kernel_rfl) (by kernel_rfl) (by kernel_rfl) rfl (by kernel_rfl) rfl (by kernel_rfl) rfl (by kernel_rfl) rfl (by kernel_rfl) rfl (by kernel_rfl)
    (.pointer (some ⟨f.g, 0, none⟩)) (.pointer (some ⟨f.g, 0, none⟩)) (.pointer (some ⟨f.g, 0, none⟩)) (.pointer (some ⟨f.g, 1, none⟩)) (.slice (some ⟨g0, 0, none⟩) (f.sy + k) cap) (.pointer (some ⟨f.g, 0, none⟩)) (.pointer (some ⟨f.g, 0, none⟩)) (.pointer (some ⟨f.g, 2, none⟩)) (.int .i64 ((f.sy : Int) + k)) (.int .i64 sec) _ _ _ _ _ _ _ _ _ _
    (fun w' => Kept [g0] W2 w')
    (fun w' => Kept [] W2 w')
    (fun u0 w' => u0 = .int .i64 M ∧ Kept [] W2 w')
    (fun u0 u1 w' => ∃ g' cap', u1 = .slice (some ⟨g', 0, none⟩) (q.length + M) cap' ∧ w'.ownsRow 0 5 1 (.slice (some ⟨g', 0, none⟩) (q.length + M) cap') (q ++ List.replicate M 0).length ((q ++ List.replicate M 0).map u8) ∧ Kept [g0] W2 w' ∧ (g' = g0 ∨ W2.heap.size ≤ g'))
    (fun u0 u1 u2 w' => u2 = .pointer (some ⟨f.g, 0, none⟩) ∧ ∃ g' cap', u1 = .slice (some ⟨g', 0, none⟩) (q.length + M) cap' ∧ w'.ownsRow 0 5 1 (.slice (some ⟨g', 0, none⟩) (q.length + M) cap') (q ++ List.replicate M 0).length ((q ++ List.replicate M 0).map u8) ∧ Kept [g0] W2 w' ∧ (g' = g0 ∨ W2.heap.size ≤ g'))
    (fun u0 u1 u2 u3 w' => u3 = .pointer (some ⟨f.g, 1, none⟩) ∧ ∃ g' cap', u1 = .slice (some ⟨g', 0, none⟩) (q.length + M) cap' ∧ w'.ownsRow 0 5 1 (.slice (some ⟨g', 0, none⟩) (q.length + M) cap') (q ++ List.replicate M 0).length ((q ++ List.replicate M 0).map u8) ∧ Kept [g0] W2 w' ∧ (g' = g0 ∨ W2.heap.size ≤ g'))
    (fun u0 u1 u2 u3 w' => ∃ g' cap' w4, w' = w4.setCell ⟨f.g, 1, none⟩ (.slice (some ⟨g', 0, none⟩) (q.length + M) cap') ∧ w4.ownsRow 0 5 1 (.slice (some ⟨g', 0, none⟩) (q.length + M) cap') (q ++ List.replicate M 0).length ((q ++ List.replicate M 0).map u8) ∧ Kept [g0] W2 w4 ∧ (g' = g0 ∨ W2.heap.size ≤ g'))
    (by simp only [Act.put, List.setIfInBounds_toArray, List.set_cons_zero, List.set_cons_succ]; rfl) (by exact Or.inl ⟨by rfl, fun W' hW' => by go_simp⟩)
    (by simp only [Act.put, List.setIfInBounds_toArray, List.set_cons_zero, List.set_cons_succ]; rfl) (by exact Or.inl ⟨by rfl, fun W' hW' => by go_simp⟩)
    (by simp only [Act.put, List.setIfInBounds_toArray, List.set_cons_zero, List.set_cons_succ]; rfl) (by exact Or.inl ⟨by rfl, fun W' hW' => by go_simp⟩)
    (by simp only [Act.put, List.setIfInBounds_toArray, List.set_cons_zero, List.set_cons_succ]; rfl) (by exact Or.inl ⟨by rfl, fun W' hW' => by go_simp⟩)
    (by simp only [Act.put, List.setIfInBounds_toArray, List.set_cons_zero, List.set_cons_succ]; rfl) (by exact Or.inl ⟨by rfl, fun W' hW' => by have h9 := hW'.cell c1 (by simpa using unhide HGB); go_simp⟩)
    (by simp only [Act.put, List.setIfInBounds_toArray, List.set_cons_zero, List.set_cons_succ]; rfl) (by exact Or.inl ⟨by rfl, fun W' hW' => by go_simp⟩)
    (by simp only [Act.put, List.setIfInBounds_toArray, List.set_cons_zero, List.set_cons_succ]; rfl) (by exact Or.inl ⟨by rfl, fun W' hW' => by go_simp⟩)
    (by simp only [Act.put, List.setIfInBounds_toArray, List.set_cons_zero, List.set_cons_succ]; rfl) (by exact Or.inl ⟨by rfl, fun W' hW' => by go_simp⟩)
    (by simp only [Act.put, List.setIfInBounds_toArray, List.set_cons_zero, List.set_cons_succ]; rfl) (by exact Or.inl ⟨by rfl, fun W' hW' => by have h9 := hW'.cell c2 (by simpa using unhide HGB); go_simp⟩)
    (by simp only [Act.put, List.setIfInBounds_toArray, List.set_cons_zero, List.set_cons_succ]; rfl) (by exact Or.inl ⟨by rfl, fun W' hW' => by go_simp⟩)
    (Kept.refl [] W2).drew
    ⟨fun w' h => h.mono (by simp), fun u0 w' h => h.2.mono (by simp), fun u0 u1 w' h => by obtain ⟨g', cap', _, _, h3, _⟩ := h; exact h3, fun u0 u1 u2 w' h => by obtain ⟨_, g', cap', _, _, h3, _⟩ := h; exact h3, fun u0 u1 u2 u3 w' h => by obtain ⟨_, g', cap', _, _, h3, _⟩ := h; exact h3⟩
    (by
      intro w' i K hK
      refine wp_callN rfl Tryz.call125 [.int .i64 ((f.sy : Int) + k), .int .i64 sec] rfl (unhide HTS w') ?_
      rintro e w2 ⟨rfl, rfl⟩
      exact ⟨_, rfl, hK _ _ ⟨rfl, i⟩⟩)
    (by
      rintro u0 w' ⟨rfl, i⟩ K hK
      obtain ⟨g', cap', w1, hrun, h2, h3, h4⟩ := appendZ w' g0 cap M q (i.owns (unhide HOQ) (by simp)) (unhide HML) (by omega)
      refine wp_appendZ rfl rfl (v := .slice (some ⟨g0, 0, none⟩) q.length cap) (u := .int .i64 M) (by rw [unhide HQL]; rfl) rfl hrun (hK _ _ ⟨g', cap', rfl, h2, (i.mono (by simp)).trans h3 (fun x hx => .inl hx), ?_⟩)
      rcases h4 with h4 | h4
      · exact .inl h4
      · exact .inr (by have := i.size; omega))
    (by rintro u0 u1 w' ⟨g', cap', rfl, r⟩ K hK; unfold Oper.wp execOp; go_simp; exact hK _ _ ⟨rfl, g', cap', rfl, r⟩)
    (by rintro u0 u1 u2 w' ⟨rfl, g', cap', rfl, r⟩ K hK; unfold Oper.wp execOp; go_simp; exact hK _ _ ⟨rfl, g', cap', rfl, r⟩)
    (by
      rintro u0 u1 u2 u3 w' ⟨rfl, g', cap', rfl, r1, r2, r3⟩ K hK
      have hg4 := r2.heap (unhide HG2) (by simpa using unhide HGB)
      have c41 := cell_of_row _ _ 1 _ _ _ hg4
      simp at c41
      have hz41 := frozen_of_row _ _ 1 _ _ hg4
      unfold Oper.wp execOp
      go_simp
      exact hK _ ⟨g', cap', w', rfl, r1, r2, r3⟩)
    ?_
  rintro u0 u1 u2 u3 _ ⟨g', cap', w4, rfl, A1, A2, A3⟩
  simp only [Act.put, List.setIfInBounds_toArray, List.set_cons_zero, List.set_cons_succ]
  have HG4 := hide (A2.heap (unhide HG2) (by simpa using unhide HGB))
  have HG5 := hide (heap_setCell_same _ _ 1 _ _ (.slice (some ⟨g', 0, none⟩) (q.length + M) cap') (unhide HG4))
  have c51 := cell_of_row _ _ 1 _ _ _ (unhide HG5)
  have c52 := cell_of_row _ _ 2 _ _ _ (unhide HG5)
  simp at c51 c52
  have hz52 := frozen_of_row _ _ 2 _ _ (unhide HG5)
  have HA1 := hide A1
  have HA2 := hide A2
  have HA3 := hide A3
  clear A1 A2 A3 c1 c2 HTS
  obtain ⟨W5, hW5⟩ : ∃ W, w4.setCell ⟨f.g, 1, none⟩ (.slice (some ⟨g', 0, none⟩) (q.length + M) cap') = W := ⟨_, rfl⟩
  rw [hW5] at c51 c52 hz52 ⊢
  have HW5 := hide hW5
  clear hW5
  go_wp2_with fail
  rw [← unhide HW5]
  have hfile := unhide HFL
  have hbv : blk f.v = [g0] := by rw [hv]; rfl
  have kA : Kept [f.g, g0] w w4 := (((unhide HK0).mono (by simp)).trans (unhide HK2) (by intro x hx; simp at hx; simp [hx])).trans (unhide HA2) (by intro x hx; simp at hx; simp [hx])
  have kB : Kept [f.g] w4 ((w4.setCell ⟨f.g, 1, none⟩ (.slice (some ⟨g', 0, none⟩) (q.length + M) cap')).setCell ⟨f.g, 2, none⟩ (.int .i64 ((q.length : Int) + M))) := (((Kept.refl [f.g] w4).setCell (p := ⟨f.g, 1, none⟩) (.inl (by simp)) _).setCell (p := ⟨f.g, 2, none⟩) (.inl (by simp)) _)
  have hsz : w.heap.size ≤ W2.heap.size := Nat.le_trans (unhide HK0).size (unhide HK2).size
  rw [unhide HM, unhide HQ]
  refine bodyPost_end (v := .tuple #[]) (results_none rfl _ _ _) rfl ⟨.slice (some ⟨g', 0, none⟩) (q.length + M) cap', rfl, ⟨?_, kB.owns (unhide HA1) ?_, ?_, ?_⟩, ?_, ?_⟩
  · have : ((f.sy + k + M : Nat) : Int) = (q.length : Int) + M := by rw [unhide HQL]; omega
    rw [this]
    exact heap_setCell_same _ _ 2 _ _ _ (heap_setCell_same _ _ 1 _ _ _ (unhide HG4))
  · intro x hx
    obtain ⟨cs, hc⟩ := owns_cells (unhide HA1) (own_blk hx)
    simpa using cells_ne hc (unhide HG4) (by decide)
  · intro x hx
    rw [List.mem_append] at hx
    rcases hx with hx | hx
    · exact unhide HQB x hx
    · rw [List.eq_of_mem_replicate hx]; omega
  · show f.sy + k + M ≤ (q ++ List.replicate M 0).length
    rw [List.length_append, List.length_replicate, unhide HQL]
    omega
  · rw [hbv]
    exact kA.trans kB (by intro x hx; simp at hx; simp [hx])
  · intro x hx
    simp only [blk, List.mem_singleton] at hx
    subst hx
    rw [hbv]
    rcases unhide HA3 with h1 | h1
    · exact .inl (by simp [h1])
    · exact .inr (by omega)
end Go.Proofs.YtejchncdimcdbaaGreatDoor
namespace Go.Proofs.YtejchncdimcdbaaGreatDoor
open Go.RowKit Go.BigFrame
set_option linter.unusedVariables false
set_option linter.unusedSimpArgs false

/-- The files whose names a cut leaves. -/
def keepD : Nat → List DFile → List DFile
  | _, [] => []
  | k, f :: r => if f.nd then f :: keepD k r else match k with
    | 0 => keepD 0 r
    | k + 1 => f :: keepD k r
theorem keepD_nd {k : Nat} {f : DFile} {r : List DFile} (h : f.nd = true) : keepD k (f :: r) = f :: keepD k r := by cases k <;> simp [keepD, h]
theorem keepD_zero {f : DFile} {r : List DFile} (h : f.nd = false) : keepD 0 (f :: r) = keepD 0 r := by simp [keepD, h]
theorem keepD_succ {k : Nat} {f : DFile} {r : List DFile} (h : f.nd = false) : keepD (k + 1) (f :: r) = f :: keepD k r := by simp [keepD, h]
theorem keepD_abs (fs : List DFile) : ∀ k, (keepD k fs).map absF = cutN k (fs.map absF) := by
  induction fs with
  | nil => intro k; simp [keepD, cutN]
  | cons f r ih =>
    intro k
    cases hn : f.nd
    · cases k with
      | zero => rw [keepD_zero hn, ih]; simp [cutN, absF, hn]
      | succ k => rw [keepD_succ hn, List.map_cons, ih]; simp [cutN, absF, hn]
    · rw [keepD_nd hn, List.map_cons, ih]; cases k <;> simp [cutN, absF, hn]
theorem keepD_sub (fs : List DFile) : ∀ k, (keepD k fs).Sublist fs := by
  induction fs with
  | nil => intro k; simp [keepD]
  | cons f r ih =>
    intro k
    cases hn : f.nd
    · cases k with
      | zero => rw [keepD_zero hn]; exact (ih 0).cons _
      | succ k => rw [keepD_succ hn]; exact (ih k).cons_cons _
    · rw [keepD_nd hn]; exact (ih k).cons_cons _
/-- The map, some names struck. -/
def delF (fs : List DFile) (k j : Nat) (s : List UInt8) : Option Nat := if (((unL fs).drop k).take j).any (fun x => x.nm.data.toList == s) then none else look fs s
theorem delF_zero (fs : List DFile) (k : Nat) : delF fs k 0 = look fs := by funext s; simp [delF]
theorem delF_succ {fs : List DFile} {k j : Nat} (h : j < ((unL fs).drop k).length) : (fun t => if t = (((unL fs).drop k)[j]'h).nm.data.toList then none else delF fs k j t) = delF fs k (j + 1) := by
  funext t
  unfold delF
  rw [List.take_succ_eq_append_getElem h, List.any_append, List.any_cons, List.any_nil, Bool.or_false]
  generalize ((unL fs).drop k)[j]'h = X
  by_cases ht : t = X.nm.data.toList
  · subst ht
    rw [if_pos rfl, if_pos (by simp)]
  · have h1 : (X.nm.data.toList == t) = false := by rw [beq_eq_false_iff_ne]; exact fun e => ht e.symm
    rw [if_neg ht, h1, Bool.or_false]
theorem look_cons (f : DFile) (r : List DFile) (s : List UInt8) : look (f :: r) s = if f.nm.data.toList = s then some f.g else look r s := by
  unfold look
  rw [List.find?_cons]
  by_cases h : f.nm.data.toList = s
  · simp [h]
  · have : (f.nm.data.toList == s) = false := by simpa using h
    simp [this, h]
theorem unL_nd {f : DFile} {r : List DFile} (h : f.nd = true) : unL (f :: r) = unL r := by simp [unL, h]
theorem unL_not {f : DFile} {r : List DFile} (h : f.nd = false) : unL (f :: r) = f :: unL r := by simp [unL, h]
theorem look_none_of {fs : List DFile} {s : List UInt8} (h : ∀ f ∈ fs, f.nm.data.toList ≠ s) : look fs s = none := by
  unfold look
  rw [Option.map_eq_none_iff, List.find?_eq_none]
  intro f hf
  simpa using h f hf
theorem any_none_of {l : List DFile} {s : List UInt8} (h : ∀ f ∈ l, f.nm.data.toList ≠ s) : l.any (fun x => x.nm.data.toList == s) = false := by
  rw [List.any_eq_false]
  intro f hf
  simpa using h f hf
theorem look_keepD (fs : List DFile) : ∀ k, Dist (fs.map absF) → ∀ s, look (keepD k fs) s = if ((unL fs).drop k).any (fun x => x.nm.data.toList == s) then none else look fs s := by
  induction fs with
  | nil => intro k hd s; simp [keepD, unL, look]
  | cons f r ih =>
    intro k hd s
    rw [List.map_cons] at hd
    obtain ⟨hd1, hd2⟩ := List.pairwise_cons.1 hd
    have hne : ∀ x ∈ r, f.nm.data.toList = s → x.nm.data.toList ≠ s := by
      intro x hx e1 e2
      exact hd1 (absF x) (List.mem_map.2 ⟨x, hx, rfl⟩) (ba_ext (e1.trans e2.symm))
    have hun : ∀ x ∈ unL r, x ∈ r := fun x hx => (List.mem_filter.1 hx).1
    cases hn : f.nd
    · rw [unL_not hn]
      cases k with
      | zero =>
        rw [keepD_zero hn, ih 0 hd2, List.drop_zero, List.drop_zero, List.any_cons, look_cons]
        by_cases h : f.nm.data.toList = s
        · rw [if_pos (by simp [h] : (f.nm.data.toList == s || (unL r).any fun x => x.nm.data.toList == s) = true)]
          split
          · rfl
          · exact look_none_of (fun x hx => hne x hx h)
        · have : (f.nm.data.toList == s) = false := by simpa using h
          rw [this, Bool.false_or, if_neg h]
      | succ k =>
        rw [keepD_succ hn, look_cons, look_cons, List.drop_succ_cons, ih k hd2]
        by_cases h : f.nm.data.toList = s
        · rw [if_pos h, if_pos h, any_none_of (fun x hx => hne x (hun x (List.mem_of_mem_drop hx)) h)]
          rfl
        · rw [if_neg h, if_neg h]
    · rw [unL_nd hn, keepD_nd hn, look_cons, look_cons, ih k hd2]
      by_cases h : f.nm.data.toList = s
      · rw [if_pos h, if_pos h, any_none_of (fun x hx => hne x (hun x (List.mem_of_mem_drop hx)) h)]
        rfl
      · rw [if_neg h, if_neg h]
theorem delF_all (fs : List DFile) (k : Nat) (hd : Dist (fs.map absF)) : delF fs k ((unL fs).drop k).length = look (keepD k fs) := by
  funext s
  rw [look_keepD fs k hd]
  unfold delF
  rw [List.take_length]
theorem unA_abs (fs : List DFile) : unA (fs.map absF) = (unL fs).length := by
  unfold unA unL
  rw [List.filter_map, List.length_map]
  rfl

theorem ranges_heap {H : Type} {P : Program} {k : TypeId} {R : Value → Option (DataW H × List MemPlace)} {w w' : World} {b r n : Nat} {D : DataW H} {left : Lit → Bool} {cnt : Nat} (h : w.ranges P k R b r n D left cnt) (e1 : w'.heap[b]? = w.heap[b]?) (e2 : w'.heap[r]? = w.heap[r]?) : w'.ranges P k R b r n D left cnt := by
  obtain ⟨es, clock, since, seen, c0, hb, F, hs, hD, hr, rest⟩ := h
  exact ⟨es, clock, since, seen, c0, e1.trans hb, F, hs, hD, e2.trans hr, rest⟩
theorem ranges_iter {H : Type} {P : Program} {k : TypeId} {R : Value → Option (DataW H × List MemPlace)} {w : World} {b r n : Nat} {D : DataW H} {left : Lit → Bool} {cnt : Nat} (h : w.ranges P k R b r n D left cnt) : ∃ m s e c, w.heap[r]? = some (.mapIter m s e c) := by
  obtain ⟨es, clock, since, seen, c0, hb, F, hs, hD, hr, rest⟩ := h
  exact ⟨_, _, _, _, hr⟩
theorem DkAt.obj {w : World} {d sec m N : Nat} {u fv : Value} {cr op : Int} {off : Bool} {ft : Int → Option Int} {fs : List DFile} (h : DkAt w d sec m N u fv cr op off ft fs) : ∀ x ∈ dkB d m u fv fs, (∃ cs T z, w.heap[x]? = some (.cells cs T z)) ∨ ∃ es c, w.heap[x]? = some (.map es c) := by
  intro x hx
  simp only [dkB, List.mem_cons, List.mem_append, List.mem_flatMap] at hx
  rcases hx with rfl | rfl | (hx | hx) | ⟨f, hf, hx⟩
  · exact .inl ⟨_, _, _, h.row⟩
  · obtain ⟨n, D, ⟨es, c, hb, _⟩, _⟩ := h.map
    exact .inr ⟨es, c, hb⟩
  · obtain ⟨cs, hc⟩ := qr_cells h.un hx
    exact .inl ⟨_, _, _, hc⟩
  · obtain ⟨n, D, es, c, hb, _⟩ := fmap_block h.ft hx
    exact .inr ⟨es, c, hb⟩
  · rcases hx with rfl | hx
    · exact .inl ⟨_, _, _, (h.files f hf).1⟩
    · obtain ⟨cs, hc⟩ := owns_cells (h.files f hf).2.1 hx
      exact .inl ⟨_, _, _, hc⟩
theorem DkAt.noIter {w : World} {d sec m N : Nat} {u fv : Value} {cr op : Int} {off : Bool} {ft : Int → Option Int} {fs : List DFile} (h : DkAt w d sec m N u fv cr op off ft fs) {r : Nat} (hr : ∃ m s e c, w.heap[r]? = some (.mapIter m s e c)) : r ∉ dkB d m u fv fs := by
  intro hx
  obtain ⟨a, b, c, e, hr⟩ := hr
  rcases h.obj r hx with ⟨_, _, _, h1⟩ | ⟨_, _, h1⟩ <;> rw [h1] at hr <;> cases hr

/-- What is settled so far. -/
def setL (ks : List KeepD) (sec : Nat) (left : Lit → Bool) (f : DF) : DF := if left (.string f.nm.data.toList) then f else setF ((fstK ks f.nm.data.toList).getD zK) sec f
theorem setF_nm (k : KeepD) (sec : Nat) (f : DF) : (setF k sec f).nm = f.nm := by unfold setF; split <;> rfl
theorem setL_nm (ks : List KeepD) (sec : Nat) (left : Lit → Bool) (f : DF) : (setL ks sec left f).nm = f.nm := by unfold setL; split; rfl; exact setF_nm _ _ _
theorem look_abs_eq {fs gs : List DFile} (h : fs.map (fun f => (f.nm, f.g)) = gs.map (fun f => (f.nm, f.g))) : look fs = look gs := by
  funext s
  have e : ∀ l : List DFile, look l s = ((l.map fun f => (f.nm, f.g)).find? fun p => p.1.data.toList == s).map (·.2) := by
    intro l
    unfold look
    rw [List.find?_map, Option.map_map]
    rfl
  rw [e, e, h]
theorem upF_key (fs : List DFile) (g : Nat) (v : Value) (bs : List Nat) (sy : Nat) : (upF fs g v bs sy).map (fun f => (f.nm, f.g)) = fs.map (fun f => (f.nm, f.g)) := by
  unfold upF
  rw [List.map_map]
  apply List.map_congr_left
  intro a _
  simp [upOne_nm, upOne_g]
end Go.Proofs.YtejchncdimcdbaaGreatDoor
namespace Go.Proofs.YtejchncdimcdbaaGreatDoor
open Go.RowKit Go.BigFrame
set_option linter.unusedVariables false
set_option linter.unusedSimpArgs false

theorem settle_any (f : DFile) (w : World) (K : KeepD) (sec : Nat) (hf : FileAt w f) (hlen : f.bs.length ≤ 140737488350000) (hs1 : 1 ≤ sec) (hs2 : sec ≤ 4096) :
    Calls Tryz.prog 77 #[.pointer (some ⟨f.g, 0, none⟩), keV K, .int .i64 sec] w fun e w' => ∃ v', e = .returned (.tuple #[]) ∧ FileAt w' { f with v := v', bs := (setF K sec (absF f)).bs, sy := (setF K sec (absF f)).sy } ∧ Kept (f.g :: blk f.v) w w' ∧ ∀ x ∈ blk v', x ∈ blk f.v ∨ w.heap.size ≤ x := by
  obtain ⟨kn, kb, tn⟩ := K
  by_cases hc : tn = true ∧ setN ⟨kn, kb, tn⟩ (absF f) < f.bs.length
  · obtain ⟨rfl, hlt⟩ := hc
    have e1 : setF ⟨kn, kb, true⟩ sec (absF f) = ⟨f.nm, f.bs.take (setN ⟨kn, kb, true⟩ (absF f)) ++ List.replicate (tse (setN ⟨kn, kb, true⟩ (absF f)) sec) 0, setN ⟨kn, kb, true⟩ (absF f) + tse (setN ⟨kn, kb, true⟩ (absF f)) sec, true⟩ := by
      unfold setF
      exact if_pos ⟨rfl, hlt⟩
    rw [e1]
    exact settle_torn f w kn kb sec hf hlen _ rfl hlt hs1 hs2
  · have e1 : setF ⟨kn, kb, tn⟩ sec (absF f) = ⟨f.nm, f.bs.take (setN ⟨kn, kb, tn⟩ (absF f)), setN ⟨kn, kb, tn⟩ (absF f), true⟩ := by
      unfold setF
      exact if_neg hc
    rw [e1]
    refine Calls.mono (settle_plain f w kn kb tn sec hf hlen _ rfl (fun h hlt => hc ⟨h, hlt⟩)) ?_
    rintro e w' ⟨v', rfl, h1, h2, h3⟩
    exact ⟨v', rfl, h1, h2.mono (by simp), fun x hx => .inl (h3 ▸ hx)⟩

theorem keyStr_inv {key : Value} {kl : Lit} (h : keyOf Tryz.prog 9 key = some kl) : ∃ s : ByteArray, key = .string s ∧ kl = .string s.data.toList := by
  cases key <;> simp [keyOf, Tryz.underlying9, mapKey] at h
  obtain ⟨_, rfl⟩ := h
  exact ⟨_, rfl, rfl⟩

theorem DkAt.turnedF {w w' : World} {d sec m N : Nat} {u fv : Value} {cr op : Int} {off : Bool} {ft : Int → Option Int} {fs : List DFile} (h : DkAt w d sec m N u fv cr op off ft fs) (k : Kept [d] w w') {fv' : Value} {ft' : Int → Option Int} {cr' op' : Int} {off' : Bool} (hr : DRow w' d sec (.map (some m)) u fv' cr' op' off') (hf : FMap w' fv' N ft') (h2 : m ∉ mblk fv') : DkAt w' d sec m N u fv' cr' op' off' ft' fs where
  row := hr
  map := by
    obtain ⟨n, D, ho, _⟩ := h.map
    exact dmap_kept h.map k (by simpa using (map_ne ho h.row).symm)
  un := h.un.kept k (by
    intro x hx
    obtain ⟨cs, hc⟩ := qr_cells h.un hx
    simpa using cells_ne hc h.row (by decide))
  ft := hf
  files := fun f hf => (h.files f hf).kept k (by simpa using cells_ne (h.files f hf).1 h.row (by decide)) (by
    intro x hx
    obtain ⟨cs, hc⟩ := owns_cells (h.files f hf).2.1 hx
    simpa using cells_ne hc h.row (by decide))
  apart := h.apart
  two := h2

/-- Names struck out of the map, the others' made durable. -/
theorem DkAt.struck {w w2 w3 : World} {d sec m N k : Nat} {u fv : Value} {cr op : Int} {off : Bool} {ft : Int → Option Int} {fs : List DFile} (h : DkAt w d sec m N u fv cr op off ft fs) (k2 : Kept [m] w w2) (k3 : Kept (d :: fs.map DFile.g) w2 w3) {n : Nat} {D : DataW Unit} (ho : w2.ownsMap Tryz.prog 9 ptrElem m n D) (hn : n ≤ N) (hD : MapIs D (look (keepD k fs))) (hr : DRow w3 d sec (.map (some m)) (.slice none 0 0) fv cr op off) (hf : ∀ f ∈ fs, FileAt w3 { f with nd := true }) :
    DkAt w3 d sec m N (.slice none 0 0) fv cr op off ft ((keepD k fs).map fun f => { f with nd := true }) := by
  obtain ⟨n0, D0, ho0, _⟩ := h.map
  have hg : ∀ f ∈ fs, f.g ≠ m := fun f hf => map_ne ho0 (h.files f hf).1
  have hdm : d ≠ m := map_ne ho0 h.row
  have hml : m ∉ d :: fs.map DFile.g := by
    intro hx
    simp only [List.mem_cons, List.mem_map] at hx
    rcases hx with rfl | ⟨f, hf, rfl⟩
    · exact hdm rfl
    · exact hg f hf rfl
  refine ⟨hr, ⟨n, D, ownsMap_heap ho (k3.block m ho.lt hml), hn, by rw [look_nd]; exact hD⟩, by rw [unN_nd]; exact Qr.nil _ _, ?_, ?_, ?_, h.two⟩
  · have h1 := h.ft.kept k2 (by intro x hx hm; simp only [List.mem_singleton] at hm; subst hm; exact h.two hx)
    refine h1.kept k3 ?_
    intro x hx hy
    obtain ⟨n5, D5, ho5⟩ := fmap_block h.ft hx
    simp only [List.mem_cons, List.mem_map] at hy
    rcases hy with rfl | ⟨f, hf, rfl⟩
    · exact map_ne ho5 h.row rfl
    · exact map_ne ho5 (h.files f hf).1 rfl
  · intro a ha
    obtain ⟨f, hf2, rfl⟩ := List.mem_map.1 ha
    exact hf f ((keepD_sub fs k).subset hf2)
  · rw [List.pairwise_map]
    exact h.apart.sublist (keepD_sub fs k)
theorem dkB_struck {d m k : Nat} {u fv : Value} {fs : List DFile} : ∀ x ∈ dkB d m (.slice none 0 0) fv ((keepD k fs).map fun f => { f with nd := true }), x ∈ dkB d m u fv fs := by
  intro x hx
  simp only [dkB, blk, List.mem_cons, List.mem_append, List.mem_flatMap, List.not_mem_nil, false_or] at hx ⊢
  rcases hx with h | h | h | ⟨f, hf, h⟩
  · exact .inl h
  · exact .inr (.inl h)
  · exact .inr (.inr (.inl (.inr h)))
  · obtain ⟨a, ha, rfl⟩ := List.mem_map.1 hf
    exact .inr (.inr (.inr ⟨a, (keepD_sub fs k).subset ha, h⟩))
theorem setL_all (ks : List KeepD) (sec : Nat) (left : Lit → Bool) (hl : ∀ kl, left kl = false) (k : Nat) (fs : List DFile) : (((keepD k fs).map fun f => { f with nd := true }).map absF).map (setL ks sec left) = setA ks sec (cutN k (fs.map absF)) := by
  rw [nd_abs2, ← keepD_abs]
  unfold setA ndA
  rw [List.map_map, List.map_map, List.map_map]
  apply List.map_congr_left
  intro a _
  simp only [Function.comp, setL, hl]
  rfl
where nd_abs2 : ((keepD k fs).map fun f => { f with nd := true }).map absF = ndA ((keepD k fs).map absF) := by unfold ndA; rw [List.map_map, List.map_map]; rfl

theorem setL_start {ks : List KeepD} {sec : Nat} {fs : List DFile} {D : DataW Unit} (hD : MapIs D (look fs)) : (fs.map absF).map (setL ks sec (Maps.has D)) = fs.map absF := by
  conv => rhs; rw [← List.map_id (fs.map absF)]
  apply List.map_congr_left
  intro a ha
  obtain ⟨f, hf, rfl⟩ := List.mem_map.1 ha
  have h1 := (hD f.nm.data.toList).1
  have h2 : (look fs f.nm.data.toList).isSome = true := by
    rw [look_isSome]
    unfold findA
    rw [List.find?_isSome]
    exact ⟨absF f, ha, by simp [absF]⟩
  unfold setL
  rw [show (absF f).nm = f.nm from rfl, h1, h2]
  rfl
theorem setL_step {ks : List KeepD} {sec : Nat} {left : Lit → Bool} {fs gs : List DFile} (hnd : ∀ f ∈ fs, f.nd = true) (hd : Dist (fs.map absF)) (hap : gs.Pairwise Apt) (hg : gs.map absF = (fs.map absF).map (setL ks sec left)) {f : DFile} (hf : f ∈ gs) (hl : left (.string f.nm.data.toList) = true) (v : Value) :
    (upF gs f.g v (setF ((fstK ks f.nm.data.toList).getD zK) sec (absF f)).bs (setF ((fstK ks f.nm.data.toList).getD zK) sec (absF f)).sy).map absF = (fs.map absF).map (setL ks sec fun z => left z && !z.sameKey (.string f.nm.data.toList)) := by
  have hnm : (gs.map absF).map DF.nm = (fs.map absF).map DF.nm := by
    rw [hg, List.map_map]
    apply List.map_congr_left
    intro a _
    exact setL_nm _ _ _ _
  have hdg : Dist (gs.map absF) := by rw [dist_iff, hnm]; exact (dist_iff _).1 hd
  rw [up_abs hap hdg hf, hg]
  unfold upA
  rw [List.map_map]
  apply List.map_congr_left
  intro a ha
  simp only [Function.comp, setL_nm]
  by_cases hn : a.nm = f.nm
  · rw [if_pos hn]
    have h1 : setL ks sec left a = a := by unfold setL; rw [hn, hl]; rfl
    have h2 : absF f = a := by
      have h3 : absF f ∈ (fs.map absF).map (setL ks sec left) := by rw [← hg]; exact List.mem_map.2 ⟨f, hf, rfl⟩
      obtain ⟨b, hb, hbe⟩ := List.mem_map.1 h3
      have h4 : b.nm = a.nm := by rw [hn, ← setL_nm ks sec left b, hbe]; rfl
      obtain ⟨b0, hb0, rfl⟩ := List.mem_map.1 hb
      obtain ⟨a0, ha0, rfl⟩ := List.mem_map.1 ha
      have h5 : b0 = a0 := dist_eq hd hb0 ha0 h4
      subst h5
      rw [← hbe, h1]
    have h6 : a.nd = true := by
      obtain ⟨a0, ha0, rfl⟩ := List.mem_map.1 ha
      exact hnd a0 ha0
    rw [h1, h2]
    have hsk : Lit.sameKey (.string f.nm.data.toList) (.string f.nm.data.toList) = true := WideAt.sameKey_self trivial
    have h7 : setL ks sec (fun z => left z && !z.sameKey (.string f.nm.data.toList)) a = setF ((fstK ks f.nm.data.toList).getD zK) sec a := by
      unfold setL
      rw [hn]
      simp only [hsk, Bool.not_true, Bool.and_false, Bool.false_eq_true, if_false]
    rw [h7]
    unfold setF
    split <;> (rw [h6])
  · rw [if_neg hn]
    have h8 : Lit.sameKey (.string a.nm.data.toList) (.string f.nm.data.toList) = false := Maps.sameKey_ne (by intro e; injection e with e; exact hn (ba_ext e))
    unfold setL
    simp only [h8, Bool.not_false, Bool.and_true]
end Go.Proofs.YtejchncdimcdbaaGreatDoor
namespace Go.Proofs.YtejchncdimcdbaaGreatDoor
open Go.RowKit Go.BigFrame
set_option linter.unusedVariables false
set_option linter.unusedSimpArgs false

theorem findA_none {A : List DF} {s : List UInt8} (h : findA A s = none) : ∀ f ∈ A, f.nm.data.toList ≠ s := by
  intro f hf e
  unfold findA at h
  rw [List.find?_eq_none] at h
  exact h f hf (by simp [e])
theorem ownA_zero {A : List DF} {s : ByteArray} (h : ownA A s = 0) : isNm s = true ∧ findA A s.data.toList = none := by
  unfold ownA at h
  split at h
  · rename_i h1
    split at h
    · cases h
    · rename_i h2
      exact ⟨h1, by simpa using h2⟩
  · cases h
theorem opE_le (ft : Int → Option Int) (cr op : Int) (own : Nat) (h : own < 100) : opE ft cr op own < 100 := by
  unfold opE
  (repeat' split) <;> omega

theorem create_D (d nb bb : Nat) (B : List Nat) (σ : DSt) (s : ByteArray) (w : World) (h : DK w d B nb bb σ) (hs : s.size ≤ 140737488355328) (hn : nb ≤ 1000000000) :
    Calls Tryz.prog 88 #[.pointer (some ⟨d, 0, none⟩), .string s] w fun e w' => ∃ B', e = .returned (.int .i64 ((stCreate σ s).1 : Nat)) ∧ DK w' d B' (nb + 1) bb (stCreate σ s).2 ∧ Ev w w' B B' := by
  have h0 := h
  obtain ⟨sec, cr, op, off, ft, A⟩ := σ
  obtain ⟨⟨m, u, fv, fs, h1, rfl, hA⟩, h2, h3, h4, h5, h6, h7⟩ := h
  dsimp only at *
  subst hA
  cases off
  · have e1 : stCreate ⟨sec, cr, op, false, ft, fs.map absF⟩ s = (opE ft cr op (own1 fs s), tick ⟨sec, cr, op, false, ft, fs.map absF⟩ (if own1 fs s = 0 ∧ opE ft cr op (own1 fs s) ≠ 7 then fs.map absF ++ [⟨s, [], 0, false⟩] else fs.map absF)) := by
      rw [own_abs]; rfl
    rw [e1]
    refine Calls.mono (create_any d sec m nb s w u fv cr op ft fs h1 hs ⟨h3.1, by omega⟩ hn (by rw [List.length_map] at h4; omega)) ?_
    rintro e w' ⟨E, G, u', rfl, hE, hD, hK, hN⟩
    subst hE
    refine ⟨_, rfl, ⟨⟨m, u', fv, _, hD, rfl, ?_⟩, ?_, ⟨by simp only [tick]; omega, by simp only [tick]; omega⟩, ?_, ?_, h6, ?_⟩, hK, hN⟩
    · simp only [tick, crF]
      split <;> simp [absF]
    all_goals simp only [tick]
    all_goals split
    · rename_i hc
      rw [own_abs] at hc
      obtain ⟨hc1, hc2⟩ := ownA_zero hc.1
      unfold Dist
      rw [List.pairwise_append]
      refine ⟨h2, List.pairwise_singleton _ _, ?_⟩
      intro a ha b hb
      simp only [List.mem_singleton] at hb
      subst hb
      intro e
      exact findA_none hc2 a ha (by rw [e])
    · exact h2
    · rw [List.length_append, List.length_singleton]; omega
    · omega
    · intro f hf
      rw [List.mem_append, List.mem_singleton] at hf
      rcases hf with hf | rfl
      · exact h5 f hf
      · simp
    · exact h5
    · rename_i hc
      rw [own_abs] at hc
      obtain ⟨hc1, hc2⟩ := ownA_zero hc.1
      intro f hf
      rw [List.mem_append, List.mem_singleton] at hf
      rcases hf with hf | rfl
      · exact h7 f hf
      · exact hc1
    · exact h7
  · refine Calls.mono (create_off d sec m nb s w u fv cr op ft fs h1) ?_
    rintro e w' ⟨rfl, rfl⟩
    exact ⟨_, rfl, h0.more (Nat.le_succ nb) (Nat.le_refl _), Ev.refl _ _⟩

theorem upA_mem {A : List DF} {s : ByteArray} {F : DF → DF} {y : DF} (h : y ∈ upA A s F) : ∃ x ∈ A, y = x ∨ (x.nm = s ∧ y = F x) := by
  unfold upA at h
  obtain ⟨x, hx, rfl⟩ := List.mem_map.1 h
  refine ⟨x, hx, ?_⟩
  split
  · rename_i h1; exact .inr ⟨h1, rfl⟩
  · exact .inl rfl
theorem upF_blk {fs : List DFile} {g : Nat} {v : Value} {bs : List Nat} {sy : Nat} {d m : Nat} {u fv : Value} {x : Nat} (h : x ∈ dkB d m u fv (upF fs g v bs sy)) : x ∈ dkB d m u fv fs ∨ x ∈ blk v := by
  simp only [dkB, List.mem_cons, List.mem_append, List.mem_flatMap] at h ⊢
  rcases h with h | h | h | ⟨f, hf, h⟩
  · exact .inl (.inl h)
  · exact .inl (.inr (.inl h))
  · exact .inl (.inr (.inr (.inl h)))
  · obtain ⟨a, ha, rfl⟩ := List.mem_map.1 hf
    rw [upOne_g] at h
    unfold upOne at h
    split at h
    · rcases h with h | h
      · exact .inl (.inr (.inr (.inr ⟨a, ha, .inl h⟩)))
      · exact .inr h
    · exact .inl (.inr (.inr (.inr ⟨a, ha, h⟩)))
theorem dkB_v {d m : Nat} {u fv : Value} {fs : List DFile} {a : DFile} (h : a ∈ fs) {x : Nat} (hx : x ∈ blk a.v) : x ∈ dkB d m u fv fs := by
  simp only [dkB, List.mem_cons, List.mem_append, List.mem_flatMap]
  exact .inr (.inr (.inr ⟨a, h, .inr hx⟩))

theorem append_D (d nb bb : Nat) (B : List Nat) (σ : DSt) (s : ByteArray) (pv : Value) (ps : List Nat) (w : World) (h : DK w d B nb bb σ) (hs : s.size ≤ 140737488355328) (hn : nb ≤ 1000000000) (hp : Rd w pv ps) (hpd : ∀ x ∈ zblk pv ps, x ∉ B) (hb : bb + ps.length ≤ 140737488350000) :
    Calls Tryz.prog 90 #[.pointer (some ⟨d, 0, none⟩), .string s, pv] w fun e w' => ∃ B', e = .returned (.int .i64 ((stAppend σ s ps).1 : Nat)) ∧ DK w' d B' (nb + 1) (bb + ps.length) (stAppend σ s ps).2 ∧ Ev w w' B B' := by
  have h0 := h
  obtain ⟨sec, cr, op, off, ft, A⟩ := σ
  obtain ⟨⟨m, u, fv, fs, h1, rfl, hA⟩, h2, h3, h4, h5, h6, h7⟩ := h
  dsimp only at *
  subst hA
  have hd : d ∉ zblk pv ps := fun hx => hpd d hx (by simp [dkB])
  cases off
  · cases hf : findA (fs.map absF) s.data.toList with
    | none =>
      have e1 : stAppend ⟨sec, cr, op, false, ft, fs.map absF⟩ s ps = (opE ft cr op 5, tick ⟨sec, cr, op, false, ft, fs.map absF⟩ (fs.map absF)) := by
        simp only [stAppend, hf]; rfl
      rw [e1]
      refine Calls.mono (append_none d sec m nb s pv w u fv cr op ft fs h1 hs ⟨h3.1, by omega⟩ (look_no hf)) ?_
      rintro e w' ⟨rfl, hD, hK⟩
      exact ⟨_, rfl, ⟨⟨m, u, fv, fs, hD.more (Nat.le_succ nb), rfl, rfl⟩, h2, ⟨by simp only [tick]; omega, by simp only [tick]; omega⟩, Nat.le_succ_of_le h4, fun f hf => Nat.le_trans (h5 f hf) (Nat.le_add_right _ _), h6, h7⟩, hK.mono (by intro x hx; simp at hx; simp [dkB, hx]), fun x hx => .inl hx⟩
    | some x =>
      obtain ⟨f, hfm, hl, rfl, hnm⟩ := look_file hf
      have hnm2 := ba_ext hnm
      subst hnm2
      have hfl := h5 (absF f) (List.mem_map.2 ⟨f, hfm, rfl⟩)
      have hfin : ∀ (v' : Value) (w' : World) (qs : List Nat), qs.length ≤ ps.length → qs = ps.take (appK ⟨sec, cr, op, false, ft, fs.map absF⟩ ps) → DkAt w' d sec m nb u fv cr (op + 1) (decide (op + 1 = cr)) ft (upF fs f.g v' (f.bs ++ qs) f.sy) → Kept (d :: f.g :: blk f.v) w w' → (∀ x ∈ blk v', x ∈ blk f.v ∨ w.heap.size ≤ x) →
          ∃ B', DK w' d B' (nb + 1) (bb + ps.length) (tick ⟨sec, cr, op, false, ft, fs.map absF⟩ (upA (fs.map absF) f.nm fun f => { f with bs := f.bs ++ ps.take (appK ⟨sec, cr, op, false, ft, fs.map absF⟩ ps) })) ∧ Ev w w' (dkB d m u fv fs) B' := by
        intro v' w' qs hq hqe hD hK hV
        refine ⟨_, ⟨⟨m, u, fv, _, hD.more (Nat.le_succ nb), rfl, ?_⟩, dist_up (by intro x; rfl) h2, ⟨by simp only [tick]; omega, by simp only [tick]; omega⟩, ?_, ?_, h6, ?_⟩, hK.mono ?_, ?_⟩
        · simp only [tick]
          rw [up_abs h1.apart h2 hfm]
          exact (up_congr h2 (x := absF f) (List.mem_map.2 ⟨f, hfm, rfl⟩) (by simp [absF, hqe])).symm
        · simp only [tick, upA, List.length_map]
          rw [List.length_map] at h4
          omega
        · intro y hy
          obtain ⟨x, hx, h9 | ⟨_, h9⟩⟩ := upA_mem hy
          · subst h9
            exact Nat.le_trans (h5 y hx) (Nat.le_add_right _ _)
          · subst h9
            have := h5 x hx
            simp only [List.length_append, List.length_take]
            omega
        · intro y hy
          obtain ⟨x, hx, h9 | ⟨_, h9⟩⟩ := upA_mem hy
          · subst h9
            exact h7 y hx
          · subst h9
            exact h7 x hx
        · intro x hx
          simp only [List.mem_cons] at hx
          rcases hx with rfl | rfl | hx
          · simp [dkB]
          · exact dkB_g hfm
          · exact dkB_v hfm hx
        · intro x hx
          rcases upF_blk hx with h9 | h9
          · exact .inl h9
          · exact (hV x h9).imp (dkB_v hfm) id
      have e1 : stAppend ⟨sec, cr, op, false, ft, fs.map absF⟩ f.nm ps = (opE ft cr op 0, tick ⟨sec, cr, op, false, ft, fs.map absF⟩ (upA (fs.map absF) f.nm fun f => { f with bs := f.bs ++ ps.take (appK ⟨sec, cr, op, false, ft, fs.map absF⟩ ps) })) := by
        simp only [stAppend, hf]; rfl
      rw [e1]
      have hfl2 : f.bs.length ≤ bb := hfl
      by_cases h7e : opE ft cr op 0 = 7
      · obtain ⟨h8, c, h9⟩ : op + 1 ≠ cr ∧ ∃ c, ft (op + 1) = some c := by
          have h10 := h7e
          unfold opE at h10
          split at h10
          · omega
          · rename_i h11
            refine ⟨h11, ?_⟩
            rw [if_neg (by simp)] at h10
            split at h10
            · rename_i h12
              exact Option.isSome_iff_exists.1 h12
            · omega
        refine Calls.mono (append_io d sec m nb f.nm pv ps w u fv cr op ft fs h1 hs ⟨h3.1, by omega⟩ f hfm hl hp hd (by omega) h8 c h9) ?_
        rintro e w' ⟨v', rfl, hD, hK, hV⟩
        obtain ⟨B', hB1, hB2⟩ := hfin v' w' (ps.take (wtn c ps.length).toNat) (by rw [List.length_take]; omega) (by unfold appK; rw [if_pos h7e]; show _ = List.take (wtn ((ft (op + 1)).getD 0) _).toNat ps; rw [h9]; rfl) (by rw [decide_eq_false h8]; exact hD) hK hV
        exact ⟨B', by rw [h7e]; rfl, hB1, hB2⟩
      · refine Calls.mono (append_some d sec m nb f.nm pv ps w u fv cr op ft fs h1 hs ⟨h3.1, by omega⟩ f hfm hl hp hd (by omega) h7e) ?_
        rintro e w' ⟨v', rfl, hD, hK, hV⟩
        obtain ⟨B', hB1, hB2⟩ := hfin v' w' ps (Nat.le_refl _) (by unfold appK; rw [if_neg h7e, List.take_length]) hD hK hV
        exact ⟨B', rfl, hB1, hB2⟩
  · refine Calls.mono (append_off d sec m nb s pv w u fv cr op ft fs h1) ?_
    rintro e w' ⟨rfl, rfl⟩
    exact ⟨_, rfl, h0.more (Nat.le_succ nb) (Nat.le_add_right _ _), Ev.refl _ _⟩

theorem sync_D (d nb bb : Nat) (B : List Nat) (σ : DSt) (s : ByteArray) (w : World) (h : DK w d B nb bb σ) (hs : s.size ≤ 140737488355328) (hn : nb ≤ 1000000000) :
    Calls Tryz.prog 86 #[.pointer (some ⟨d, 0, none⟩), .string s] w fun e w' => ∃ B', e = .returned (.int .i64 ((stSync σ s).1 : Nat)) ∧ DK w' d B' (nb + 1) bb (stSync σ s).2 ∧ Ev w w' B B' := by
  have h0 := h
  obtain ⟨sec, cr, op, off, ft, A⟩ := σ
  obtain ⟨⟨m, u, fv, fs, h1, rfl, hA⟩, h2, h3, h4, h5, h6, h7⟩ := h
  dsimp only at *
  subst hA
  cases off
  · cases hf : findA (fs.map absF) s.data.toList with
    | none =>
      have e1 : stSync ⟨sec, cr, op, false, ft, fs.map absF⟩ s = (opE ft cr op 5, tick ⟨sec, cr, op, false, ft, fs.map absF⟩ (fs.map absF)) := by
        simp only [stSync, hf]; rfl
      rw [e1]
      refine Calls.mono (sync_none d sec m nb s w u fv cr op ft fs h1 hs ⟨h3.1, by omega⟩ (look_no hf)) ?_
      rintro e w' ⟨rfl, hD, hK⟩
      exact ⟨_, rfl, ⟨⟨m, u, fv, fs, hD.more (Nat.le_succ nb), rfl, rfl⟩, h2, ⟨by simp only [tick]; omega, by simp only [tick]; omega⟩, Nat.le_succ_of_le h4, h5, h6, h7⟩, hK.mono (by intro x hx; simp at hx; simp [dkB, hx]), fun x hx => .inl hx⟩
    | some x =>
      obtain ⟨f, hfm, hl, rfl, hnm⟩ := look_file hf
      have hnm2 := ba_ext hnm
      subst hnm2
      have e1 : stSync ⟨sec, cr, op, false, ft, fs.map absF⟩ f.nm = (opE ft cr op 0, tick ⟨sec, cr, op, false, ft, fs.map absF⟩ (if opE ft cr op 0 = 0 then upA (fs.map absF) f.nm fun f => { f with sy := f.bs.length } else fs.map absF)) := by
        simp only [stSync, hf]; rfl
      rw [e1]
      refine Calls.mono (sync_some d sec m nb f.nm w u fv cr op ft fs h1 hs ⟨h3.1, by omega⟩ f hfm hl) ?_
      rintro e w' ⟨E, rfl, rfl, hD, hK⟩
      have kk : Kept (dkB d m u fv fs) w w' := hK.mono (by
        intro x hx
        simp only [List.mem_cons, List.not_mem_nil, or_false] at hx
        rcases hx with rfl | rfl
        · simp [dkB]
        · exact dkB_g hfm)
      by_cases hE : opE ft cr op 0 = 0
      · rw [if_pos hE] at hD
        rw [if_pos hE]
        refine ⟨_, rfl, ⟨⟨m, u, fv, _, hD.more (Nat.le_succ nb), rfl, ?_⟩, dist_up (by intro x; rfl) h2, ⟨by simp only [tick]; omega, by simp only [tick]; omega⟩, ?_, ?_, h6, ?_⟩, kk, ?_⟩
        · simp only [tick]
          rw [up_abs h1.apart h2 hfm]
          exact (up_congr h2 (x := absF f) (List.mem_map.2 ⟨f, hfm, rfl⟩) (by simp [absF])).symm
        · simp only [tick, upA, List.length_map]
          rw [List.length_map] at h4
          omega
        · intro y hy
          obtain ⟨x, hx, h9 | ⟨_, h9⟩⟩ := upA_mem hy
          · subst h9
            exact h5 y hx
          · subst h9
            exact h5 x hx
        · intro y hy
          obtain ⟨x, hx, h9 | ⟨_, h9⟩⟩ := upA_mem hy
          · subst h9
            exact h7 y hx
          · subst h9
            exact h7 x hx
        · intro x hx
          rcases upF_blk hx with h9 | h9
          · exact .inl h9
          · exact .inl (dkB_v hfm h9)
      · rw [if_neg hE] at hD
        rw [if_neg hE]
        exact ⟨_, rfl, ⟨⟨m, u, fv, fs, hD.more (Nat.le_succ nb), rfl, rfl⟩, h2, ⟨by simp only [tick]; omega, by simp only [tick]; omega⟩, Nat.le_succ_of_le h4, h5, h6, h7⟩, kk, fun x hx => .inl hx⟩
  · refine Calls.mono (sync_off d sec m nb s w u fv cr op ft fs h1) ?_
    rintro e w' ⟨rfl, rfl⟩
    exact ⟨_, rfl, h0.more (Nat.le_succ nb) (Nat.le_refl _), Ev.refl _ _⟩

theorem nd_nm (A : List DF) : (ndA A).map DF.nm = A.map DF.nm := by unfold ndA; rw [List.map_map]; rfl
theorem dist_nd {A : List DF} (h : Dist A) : Dist (ndA A) := by rw [dist_iff, nd_nm]; exact (dist_iff A).1 h
theorem nd_abs (fs : List DFile) : (fs.map fun f => { f with nd := true }).map absF = ndA (fs.map absF) := by unfold ndA; rw [List.map_map, List.map_map]; rfl
theorem dkB_nd (d m : Nat) (u fv : Value) (fs : List DFile) : ∀ x ∈ dkB d m u fv (fs.map fun f => { f with nd := true }), x ∈ dkB d m u fv fs := by
  intro x hx
  simp only [dkB, List.mem_cons, List.mem_append, List.mem_flatMap] at hx ⊢
  rcases hx with h | h | h | ⟨f, hf, h⟩
  · exact .inl h
  · exact .inr (.inl h)
  · exact .inr (.inr (.inl h))
  · obtain ⟨a, ha, rfl⟩ := List.mem_map.1 hf
    exact .inr (.inr (.inr ⟨a, ha, h⟩))

theorem names_D (d nb bb : Nat) (B : List Nat) (σ : DSt) (w : World) (h : DK w d B nb bb σ) (hn : nb ≤ 1000000000) :
    Calls Tryz.prog 91 #[.pointer (some ⟨d, 0, none⟩)] w fun e w' => ∃ B', e = .returned (.int .i64 ((stNames σ).1 : Nat)) ∧ DK w' d B' (nb + 1) bb (stNames σ).2 ∧ Ev w w' B B' := by
  have h0 := h
  obtain ⟨sec, cr, op, off, ft, A⟩ := σ
  obtain ⟨⟨m, u, fv, fs, h1, rfl, hA⟩, h2, h3, h4, h5, h6, h7⟩ := h
  dsimp only at *
  subst hA
  cases off
  · refine Calls.mono (syncNames_any d sec m nb w u fv cr op ft fs h1 ⟨h3.1, by omega⟩ (by rw [List.length_map] at h4; omega)) ?_
    rintro e w' ⟨E, rfl, rfl, hD, hK⟩
    have kk : Kept (dkB d m u fv fs) w w' := hK.mono (by
      intro x hx
      simp only [List.mem_cons] at hx
      rcases hx with rfl | hx
      · simp [dkB]
      · obtain ⟨a, ha, rfl⟩ := List.mem_map.1 hx
        exact dkB_g ha)
    have e1 : stNames ⟨sec, cr, op, false, ft, fs.map absF⟩ = (opE ft cr op 0, tick ⟨sec, cr, op, false, ft, fs.map absF⟩ (if opE ft cr op 0 = 0 then ndA (fs.map absF) else fs.map absF)) := rfl
    rw [e1]
    by_cases hE : opE ft cr op 0 = 0
    · unfold snU snF at hD
      rw [if_pos hE, if_pos hE] at hD
      rw [if_pos hE]
      refine ⟨_, rfl, ⟨⟨m, _, fv, _, hD.more (Nat.le_succ nb), rfl, by rw [nd_abs]; rfl⟩, dist_nd h2, ⟨by simp only [tick]; omega, by simp only [tick]; omega⟩, ?_, ?_, h6, ?_⟩, kk, ?_⟩
      · simp only [tick, ndA, List.length_map]
        rw [List.length_map] at h4
        omega
      · intro y hy
        obtain ⟨x, hx, rfl⟩ := List.mem_map.1 hy
        exact h5 x hx
      · intro y hy
        obtain ⟨x, hx, rfl⟩ := List.mem_map.1 hy
        exact h7 x hx
      · intro x hx
        left
        have := dkB_nd d m (.slice none 0 0) fv fs x hx
        simp only [dkB, blk, List.mem_cons, List.mem_append, List.mem_flatMap, List.not_mem_nil, false_or] at this ⊢
        rcases this with h | h | h | h
        · exact .inl h
        · exact .inr (.inl h)
        · exact .inr (.inr (.inl (.inr h)))
        · exact .inr (.inr (.inr h))
    · unfold snU snF at hD
      rw [if_neg hE, if_neg hE] at hD
      rw [if_neg hE]
      exact ⟨_, rfl, ⟨⟨m, u, fv, fs, hD.more (Nat.le_succ nb), rfl, rfl⟩, h2, ⟨by simp only [tick]; omega, by simp only [tick]; omega⟩, Nat.le_succ_of_le h4, h5, h6, h7⟩, kk, fun x hx => .inl hx⟩
  · refine Calls.mono (syncNames_off d sec m nb w u fv cr op ft fs h1) ?_
    rintro e w' ⟨rfl, rfl⟩
    exact ⟨_, rfl, h0.more (Nat.le_succ nb) (Nat.le_refl _), Ev.refl _ _⟩
end Go.Proofs.YtejchncdimcdbaaGreatDoor
namespace Go.Proofs.YtejchncdimcdbaaGreatDoor
open Go.RowKit Go.BigFrame
set_option linter.unusedVariables false
set_option linter.unusedSimpArgs false

theorem owns_fresh {w : World} {base g : Nat} {bs : List Nat} (h : w.heap[g]? = some (.cells (bs.map u8).toArray 5 (0, 0))) (hl : bs.length ≤ 140737488355328) (hb : base ≤ g) : w.ownsRow base 5 1 (.slice (some ⟨g, 0, none⟩) bs.length bs.length) bs.length (bs.map u8) := by
  refine ⟨by simp, .inr ⟨g, bs.length, _, rfl, hb, h, Nat.le_refl _, by unfold maxLen; omega, by simp, ?_⟩⟩
  rw [Nat.mul_one, List.toList_toArray, List.take_of_length_le (by simp)]

/-- A list of bytes that was made behind w. -/
structure NwB (w w' : World) (v : Value) (bs : List Nat) : Prop where
  own : w'.ownsRow w.heap.size 5 1 v bs.length (bs.map u8)
  byte : ∀ x ∈ bs, x < 256
  len : bs.length ≤ 140737488355328
theorem NwB.rd {w w' : World} {v : Value} {bs : List Nat} (h : NwB w w' v bs) : Rd w' v bs := rd_owns h.own h.byte h.len
theorem NwB.new {w w' : World} {v : Value} {bs : List Nat} (h : NwB w w' v bs) : ∀ x ∈ blk v, w.heap.size ≤ x := fun x hx => (h.own.lt x (blk_own h.own hx)).1

theorem read_D (d nb bb : Nat) (B : List Nat) (σ : DSt) (s : ByteArray) (w : World) (h : DK w d B nb bb σ) (hs : s.size ≤ 140737488355328) (hb : bb ≤ 140737488350000) :
    Calls Tryz.prog 33 #[.pointer (some ⟨d, 0, none⟩), .string s] w fun e w' => ∃ v, e = .returned (.tuple #[v, .int .i64 ((stRead σ s).2 : Nat)]) ∧ NwB w w' v (stRead σ s).1 ∧ Kept [] w w' := by
  obtain ⟨sec, cr, op, off, ft, A⟩ := σ
  obtain ⟨⟨m, u, fv, fs, h1, rfl, hA⟩, h2, h3, h4, h5, h6, h7⟩ := h
  dsimp only at *
  subst hA
  cases off
  · cases hf : findA (fs.map absF) s.data.toList with
    | none =>
      refine Calls.mono (read_none d sec m nb s w u fv cr op ft fs h1 hs (look_no hf)) ?_
      rintro e w' ⟨rfl, rfl⟩
      exact ⟨_, by simp only [stRead, hf]; rfl, by simp only [stRead, hf]; exact ⟨World.ownsRow_nil _ _ _ _, by simp, by simp⟩, Kept.refl _ _⟩
    | some x =>
      obtain ⟨f, hfm, hl, rfl, hnm⟩ := look_file hf
      have hfl : f.bs.length ≤ bb := h5 (absF f) (List.mem_map.2 ⟨f, hfm, rfl⟩)
      refine Calls.mono (read_some d sec m nb s w u fv cr op ft fs h1 hs f hfm hl (by omega)) ?_
      rintro e w' ⟨rfl, hk, hh⟩
      exact ⟨_, by simp only [stRead, hf]; rfl, by simp only [stRead, hf]; exact ⟨owns_fresh hh (by omega) (Nat.le_refl _), (h1.files f hfm).2.2.1, by show f.bs.length ≤ _; omega⟩, hk⟩
  · refine Calls.mono (read_off d sec m nb s w u fv cr op ft fs h1) ?_
    rintro e w' ⟨rfl, rfl⟩
    exact ⟨_, rfl, ⟨World.ownsRow_nil _ _ _ _, by simp [stRead], by simp [stRead]⟩, Kept.refl _ _⟩

end Go.Proofs.YtejchncdimcdbaaGreatDoor
namespace Go.Proofs.YtejchncdimcdbaaGreatDoor
open Go.RowKit Go.BigFrame
set_option linter.unusedVariables false
set_option linter.unusedSimpArgs false

set_option maxRecDepth 100000 in
set_option maxHeartbeats 2000000 in
theorem restart_any (d sec m N : Nat) (n : Int) (kv : Value) (ks : List KeepD) (w : World) (u fv : Value) (cr op : Int) (off : Bool) (ft : Int → Option Int) (fs : List DFile)
    (h : DkAt w d sec m N u fv cr op off ft fs) (hd : Dist (fs.map absF)) (hks : RdC 3 w kv (ks.map keC)) (hkd : ∀ x ∈ zblk kv (ks.map keC), x ∉ dkB d m u fv fs) (hkn : ∀ k ∈ ks, k.nm.size ≤ 140737488355328) (hkl : ks.length ≤ 1000000000) (hfs : fs.length ≤ 1000000000) (hfb : ∀ f ∈ fs, f.bs.length ≤ 140737488350000) (hfn : ∀ f ∈ fs, f.nm.size ≤ 40) (hs1 : 1 ≤ sec) (hs2 : sec ≤ 4096) :
    Calls Tryz.prog 36 #[.pointer (some ⟨d, 0, none⟩), .agg #[.int .i64 n, kv]] w fun e w' => ∃ gs, e = .returned (.tuple #[]) ∧ DkAt w' d sec m N (.slice none 0 0) (.map none) 0 0 false (fun _ => none) gs ∧ gs.map absF = setA ks sec (cutN (wtn n (unA (fs.map absF))).toNat (fs.map absF)) ∧ Kept (dkB d m u fv fs) w w' ∧ ∀ x ∈ dkB d m (.slice none 0 0) (.map none) gs, x ∈ dkB d m u fv fs ∨ w.heap.size ≤ x := by
  have k0 := (Kept.refl [] w).alloc (.cells #[.int .i64 n, kv] 37 (0, 0))
  have HB0 := hide (heap_alloc_new w (.cells #[.int .i64 n, kv] 37 (0, 0)))
  have HDW := hide h
  have HD := hide (h.kept k0 (by simp))
  have HKS := hide (hks.old k0)
  have HK0 := hide k0
  have HLT := hide h.lt
  have HDI := hide hd
  have HKD := hide hkd
  have HKN := hide hkn
  have HFB := hide hfb
  have HFN := hide hfn
  clear h hks k0 hd hkd hkn hfb hfn
  obtain ⟨ka, kl, kc, hkv⟩ : ∃ ka kl kc, kv = .slice ka kl kc := by obtain ⟨a, b, c, h1, _⟩ := unhide HKS; exact ⟨a, b, c, h1⟩
  subst hkv
  rw [unA_abs]
  have HLL := hide (by unfold unN unL; rw [List.length_map] : (unN fs).length = (unL fs).length)
  have HLE := hide (Nat.le_trans (List.length_filter_le (fun f : DFile => !f.nd) fs) hfs : (unL fs).length ≤ 1000000000)
  obtain ⟨L, hL⟩ : ∃ L, (unL fs).length = L := ⟨_, rfl⟩
  rw [hL] at HLL HLE ⊢
  obtain ⟨k, hk⟩ : ∃ k : Nat, wtn n (L : Int) = k := ⟨(wtn n (L : Int)).toNat, by unfold wtn; omega⟩
  have hkL : k ≤ L := by unfold wtn at hk; omega
  have hwt := fun x : World => within_any n (L : Int) x
  simp only [hk] at hwt
  rw [hk]
  have HWT := hide hwt
  have HL := hide hL
  clear hwt hk hL
  obtain ⟨AA, hAA⟩ : ∃ AA, setA ks sec (cutN (k : Int).toNat (fs.map absF)) = AA := ⟨_, rfl⟩
  rw [hAA]
  have HAA := hide hAA
  clear hAA
  have hrow := (unhide HD).row
  unfold DRow at hrow
  have HR := hide hrow
  have d2 := cell_of_row _ _ 2 _ _ _ hrow
  simp at d2
  clear hrow
  obtain ⟨W0, hW0⟩ : ∃ W, w.alloc (.cells #[.int .i64 n, .slice ka kl kc] 37 (0, 0)) = W := ⟨_, rfl⟩
  have HW0 := hide hW0
  rw [hW0] at HB0 HD HKS HK0 HR d2
  clear hW0
  have b0 := cell_of_row _ _ 0 _ _ _ (unhide HB0)
  simp at b0
  have hkL2 : (k : Int) ≤ (L : Int) := by omega
  rcases (unhide HD).un with ⟨hu1, hu2⟩ | ⟨gu, offu, capu, cur, hu1, hgu, hc1, hc2, hc3, hcell⟩
  case' inl =>
    rw [hu2, List.length_nil] at HLL
    obtain ⟨capu, hcu⟩ : ∃ C : Nat, C = 0 := ⟨0, rfl⟩
    have hu1' : u = .slice none L capu := by rw [hcu, ← unhide HLL]; exact hu1
    have hc1 : L ≤ capu := by rw [hcu, ← unhide HLL]; exact Nat.le_refl _
    have HCU := hide hcu
    clear hu1 hcu
    subst hu1'
    go_enter Tryz.func36, Tryz.ntmps36
    go_wp2_with (first | (rw [unhide HW0]) | fail)
    refine Calls.mono (dnone_any d _ sec m _ fv cr op off (unhide HD).row) ?_
    rintro e w1 ⟨rfl, rfl⟩
    go_upto_region 2 with fail
    refine wp_region_quiet_lit (by kernel_rfl) (by kernel_rfl) ?_
    repeat (go_big_quiet_step (exact Calls.mono (unhide HWT _) (fun e x h => ⟨h.1, _, h.2⟩)))
    refine wpQuiet_nil ?_
    rintro _ ⟨n1, rfl⟩
    obtain ⟨AO, hAO⟩ : ∃ AO : Option Addr, none = AO := ⟨_, rfl⟩
    rw [show Value.slice none (L - k) (capu - k) = Value.slice AO (L - k) (capu - k) by rw [hAO]]
    have HAO := hide (fun j v hv => by
      rw [hu2] at hv
      simp at hv : ∀ j v, (unN fs)[k + j]? = some v → ∃ b o, AO = some ⟨b, o, none⟩ ∧ w1.cell? ⟨b, o + j, none⟩ = some v ∧ b ≠ m)
    clear hAO hu2 HLL HCU
    generalize hU : Value.slice none L capu = U at *
    have HUU := hide hU
    clear hU hc1
  case' inr =>
    rw [unhide HLL] at hu1 hc1
    have HCE := hide (fun j v hv => by
      have h9 := cell_of_row _ _ (offu + j) _ _ _ hgu
      rw [hcell j v hv] at h9
      exact h9 : ∀ j v, (unN fs)[j]? = some v → W0.cell? ⟨gu, offu + j, none⟩ = some v)
    have HGM := hide (by obtain ⟨n9, D9, ho9, _⟩ := (unhide HD).map; exact map_ne ho9 hgu : gu ≠ m)
    clear hcell hgu hc2 hc3
    subst hu1
    go_enter Tryz.func36, Tryz.ntmps36
    go_wp2_with (first | (rw [unhide HW0]) | fail)
    refine Calls.mono (dnone_any d _ sec m _ fv cr op off (unhide HD).row) ?_
    rintro e w1 ⟨rfl, rfl⟩
    go_upto_region 2 with fail
    refine wp_region_quiet_lit (by kernel_rfl) (by kernel_rfl) ?_
    repeat (go_big_quiet_step (exact Calls.mono (unhide HWT _) (fun e x h => ⟨h.1, _, h.2⟩)))
    refine wpQuiet_nil ?_
    rintro _ ⟨n1, rfl⟩
    obtain ⟨AO, hAO⟩ : ∃ AO, (if capu = k then some ⟨gu, offu, none⟩ else some ⟨gu, offu + k, none⟩ : Option Addr) = AO := ⟨_, rfl⟩
    rw [hAO]
    have HAO := hide (fun j v hv => by
      have hj : k + j < L := by rw [← unhide HLL]; exact (List.getElem?_eq_some_iff.1 hv).1
      rw [if_neg (by omega)] at hAO
      exact ⟨gu, offu + k, hAO.symm, by rw [Nat.add_assoc]; exact unhide HCE (k + j) v hv, unhide HGM⟩ : ∀ j v, (unN fs)[k + j]? = some v → ∃ b o, AO = some ⟨b, o, none⟩ ∧ w1.cell? ⟨b, o + j, none⟩ = some v ∧ b ≠ m)
    clear hAO HCE HLL HGM
    generalize hU : Value.slice (some ⟨gu, offu, none⟩) L capu = U at *
    have HUU := hide hU
    clear hU hc1
  all_goals
    obtain ⟨M, hM⟩ : ∃ M, L - k = M := ⟨_, rfl⟩
    rw [hM]
    have HM := hide (by rw [List.length_drop, unhide HL]; exact hM.symm : M = ((unL fs).drop k).length)
    have hMb : M ≤ 1000000000 := by have := unhide HLE; omega
    generalize capu - k = CP
    clear hM hkL2 d2 b0
    have HDM := hide (by obtain ⟨n9, D9, ho9, _⟩ := (unhide HD).map; exact map_ne ho9 (unhide HD).row : d ≠ m)
    have HFM := hide (by obtain ⟨n9, D9, ho9, _⟩ := (unhide HD).map; exact fun f hf => map_ne ho9 ((unhide HD).files f hf).1 : ∀ f ∈ fs, f.g ≠ m)
    go_wp2_with fail
    go_loopw [25] (fun t25 wr => ∃ (j n2 : Nat) (D : DataW Unit), j ≤ M ∧ t25 = .int .i64 j ∧ Hid (wr.ownsMap Tryz.prog 9 ptrElem m n2 D ∧ n2 ≤ N) ∧ Hid (MapIs D (delF fs k j)) ∧ Hid (Kept [m] w1 wr)) (fun t _ => M - (intOf t).toNat)
    case atStart =>
      obtain ⟨n2, D, ho, hn, hm⟩ := (unhide HD).map
      exact ⟨0, n2, D, Nat.zero_le _, rfl, hide ⟨ownsMap_heap ho rfl, hn⟩, hide (by rw [delF_zero]; exact hm), hide ((Kept.refl _ _).drewN _)⟩
    case round =>
      obtain ⟨j, n2, D, hj, rfl, HO, HMI, HK⟩ := hrel
      by_cases hlt : j < M
      · have hlt' : (j : Int) < (M : Int) := by omega
        have hlt2 : j < ((unL fs).drop k).length := by rw [← unhide HM]; exact hlt
        have hX : (unN fs)[k + j]? = some (.pointer (some ⟨(((unL fs).drop k)[j]'hlt2).g, 0, none⟩)) := by
          have h9 : unN fs = (unL fs).map fun f => .pointer (some ⟨f.g, 0, none⟩) := rfl
          rw [h9, List.getElem?_map, ← List.getElem?_drop, List.getElem?_eq_getElem hlt2]
          rfl
        obtain ⟨b, o, rfl, hc, hbm⟩ := unhide HAO j _ hX
        have c0 := (unhide HK).cell hc (by simpa using hbm)
        have HXM := hide (by
          have := List.mem_of_mem_drop (List.getElem_mem hlt2)
          exact (List.mem_filter.1 this).1 : ((unL fs).drop k)[j]'hlt2 ∈ fs)
        have HDS := hide (delF_succ hlt2)
        clear hc hX hbm
        generalize ((unL fs).drop k)[j]'hlt2 = X at c0 HXM HDS
        clear hlt2
        have hrw := (unhide HK).heap (unhide HR) (by simpa using unhide HDM)
        have c1 := cell_of_row _ _ 1 _ _ _ hrw
        simp at c1
        have hfw := (unhide HK).heap ((unhide HD).files X (unhide HXM)).1 (by simpa using unhide HFM X (unhide HXM))
        have f0 := cell_of_row _ _ 0 _ _ _ hfw
        simp at f0
        have HKEY := hide (WideMaps.keyOf_string_mk Tryz.underlying9 (s := X.nm) (by have := unhide HFN X (unhide HXM); unfold maxLen; omega))
        clear hrw hfw
        go_upto_region 5 with fail
        refine wp_quiet_tail 8 (by kernel_rfl) (by kernel_rfl) ?_
        simp only [List.take_succ_cons, List.take_zero, List.drop_succ_cons, List.drop_zero]
        repeat (go_big_quiet_step (fail))
        refine wpQuiet_nil ?_
        rintro _ ⟨n5, rfl⟩
        at_delete
        refine wpList_delete_own _ rfl _ _ 97 9 rfl 103 keyS Tryz.underlying97 ptrElem m n2 D rfl (ownsMap_heap (unhide HO).1 rfl) (.string X.nm) _ rfl (unhide HKEY) ?_
        intro w2 hown2 hturn2
        have HO2 := hide (And.intro hown2 (unhide HO).2)
        have HK2 := hide (((unhide HK).drewN n5).grown hturn2.grown (by intro k9 hk9; injection hk9 with hk9; subst hk9; simp))
        clear hown2 hturn2 c0 c1 f0
        go_wp2_with fail
        refine ⟨⟨j + 1, n2, _, by omega, by simp, HO2, hide ?_, HK2⟩, ?_⟩
        · rw [← unhide HDS]
          exact (unhide HMI).del _
        · simp [intOf]; omega
      · have hlt' : ¬ (j : Int) < (M : Int) := by omega
        have hje : j = M := by omega
        subst hje
        rw [unhide HM, delF_all fs k (unhide HDI)] at HMI
        have hrw := (unhide HK).heap (unhide HR) (by simpa using unhide HDM)
        have HU2 := hide ((unhide HD).un.kept (unhide HK) (by intro x hx hm; simp only [List.mem_singleton] at hm; subst hm; exact Qr.notMap (unhide HD).un (unhide HD).map.choose_spec.choose_spec.1 hx))
        have HF2 := hide (fun f hf => ((unhide HD).files f hf).kept (unhide HK) (by simpa using unhide HFM f hf) (by
          intro x hx hm
          simp only [List.mem_singleton] at hm
          subst hm
          obtain ⟨cs, hc⟩ := owns_cells ((unhide HD).files f hf).2.1 hx
          exact map_ne (unhide HD).map.choose_spec.choose_spec.1 hc rfl) : ∀ f ∈ fs, FileAt wr f)
        have HR2 := hide hrw
        clear hrw
        go_wp2_with fail
        refine Calls.mono (nmAll_any d sec (.map (some m)) _ U fv cr op off fs (unhide HR2) (unhide HU2) (unhide HF2) (unhide HD).apart hfs) ?_
        rintro e w3 ⟨rfl, hr3, hf3, hk3⟩
        have HD3 := hide ((unhide HD).struck (unhide HK) hk3 (unhide HO).1 (unhide HO).2 (unhide HMI) hr3 hf3)
        have HKA := hide (((unhide HK0).mono (M := dkB d m U fv fs) (by simp)).trans (unhide HK) (by intro x hx; simp only [List.mem_singleton] at hx; subst hx; left; simp [dkB]))
        have HKB := hide ((unhide HKA).trans hk3 (by
          intro x hx
          left
          simp only [List.mem_cons, List.mem_map] at hx
          rcases hx with rfl | ⟨f, hf, rfl⟩
          · simp [dkB]
          · exact dkB_g hf))
        have HBX := hide ((unhide HK).heap (unhide HB0) (by
          simp only [List.mem_singleton]
          intro e9
          have := unhide HLT m (by simp [dkB])
          omega))
        have hb3 := hk3.heap (unhide HBX) (by
          intro hx
          have : w.heap.size ∈ dkB d m U fv fs := by
            simp only [List.mem_cons, List.mem_map] at hx
            rcases hx with hx | ⟨f, hf, hx⟩
            · rw [hx]; simp [dkB]
            · rw [← hx]; exact dkB_g hf
          have := unhide HLT _ this
          omega)
        have HKS3 := hide (((unhide HKS).keptZ (unhide HK) (by intro x hx hm; simp only [List.mem_singleton] at hm; subst hm; exact unhide HKD _ hx (by simp [dkB]))).keptZ hk3 (by
          intro x hx hm
          refine unhide HKD x hx ?_
          simp only [List.mem_cons, List.mem_map] at hm
          rcases hm with rfl | ⟨f, hf, rfl⟩
          · simp [dkB]
          · exact dkB_g hf))
        have b1 := cell_of_row _ _ 1 _ _ _ hb3
        simp at b1
        have HR3 := hide hr3
        have HO3 := hide (ownsMap_heap (unhide HO).1 (hk3.block m (unhide HO).1.lt (by
          intro hx
          simp only [List.mem_cons, List.mem_map] at hx
          rcases hx with hx | ⟨f, hf, hx⟩
          · exact unhide HDM hx.symm
          · exact unhide HFM f hf hx)))
        clear hr3 hf3 hk3 hb3 HR2 HU2 HF2 HBX
        go_wp2_with fail
        refine Calls.mono (firstKeeps_any _ ks _ (unhide HKS3) (unhide HKN) hkl) ?_
        rintro e w4 ⟨kb, kn, KD, rfl, hkb, hko, hkm, hk4⟩
        have HKO := hide hko
        have HKM := hide hkm
        have HD4 := hide ((unhide HD3).kept hk4 (by simp))
        have HO4 := hide (ownsMap_heap (unhide HO3) (hk4.block m (unhide HO3).lt (by simp)))
        have HKC := hide ((unhide HKB).trans hk4 (by simp))
        have d1 := cell_of_row _ _ 1 _ _ _ (unhide HD4).row
        simp at d1
        clear hko hkm hk4 b1 hkb
        go_wp2_with (at_range; refine wpList_range_own _ rfl _ 97 rfl 9 103 keyS Tryz.underlying97 ptrElem m n2 D rfl (unhide HO4) ?_; intro w5 hrg5 hg5 hs5)
        go_frame
        obtain ⟨F2, hF2⟩ : ∃ F2, (keepD k fs).map (fun f => { f with nd := true }) = F2 := ⟨_, rfl⟩
        have HND := hide (by rw [← hF2]; intro f hf; obtain ⟨a, _, rfl⟩ := List.mem_map.1 hf; rfl : ∀ f ∈ F2, f.nd = true)
        have HBL := hide (by rw [← hF2]; intro f hf; obtain ⟨a, ha, rfl⟩ := List.mem_map.1 hf; exact unhide HFB a ((keepD_sub fs k).subset ha) : ∀ f ∈ F2, f.bs.length ≤ 140737488350000)
        have HNL := hide (by rw [← hF2]; intro f hf; obtain ⟨a, ha, rfl⟩ := List.mem_map.1 hf; exact unhide HFN a ((keepD_sub fs k).subset ha) : ∀ f ∈ F2, f.nm.size ≤ 40)
        have HDF := hide (by
          rw [← hF2, dist_iff, List.map_map, List.map_map]
          have h9 := ((dist_iff _).1 (unhide HDI))
          rw [List.map_map] at h9
          exact h9.sublist ((keepD_sub fs k).map _) : Dist (F2.map absF))
        have HAF := hide (fun left hl => by rw [← hF2]; exact (setL_all ks sec left hl k fs).trans (unhide HAA) : ∀ left : Lit → Bool, (∀ kl, left kl = false) → (F2.map absF).map (setL ks sec left) = AA)
        have HBF := hide (by rw [← hF2]; exact fun x hx => dkB_struck x hx : ∀ x ∈ dkB d m (.slice none 0 0) fv F2, x ∈ dkB d m U fv fs)
        have HLK := hide (by rw [← hF2, look_nd]; exact unhide HMI : MapIs D (look F2))
        rw [hF2] at HD3 HD4
        clear hF2 HAA d1
        have HS4 := hide (unhide HKC).size
        go_loopw [48] (fun _ wr => ∃ (left : Lit → Bool) (cnt : Nat) (gs : List DFile), Hid (wr.ranges Tryz.prog 9 ptrElem m w4.heap.size n2 D left cnt) ∧ Hid (DkAt wr d sec m N (.slice none 0 0) fv cr op off ft gs) ∧ Hid (gs.map absF = (F2.map absF).map (setL ks sec left)) ∧ Hid (gs.map (fun f => (f.nm, f.g)) = F2.map (fun f => (f.nm, f.g))) ∧ Hid (wr.ownsMap Tryz.prog 9 keepElem kb kn KD) ∧ Hid (Kept (dkB d m U fv fs) w4 wr) ∧ Hid (∀ x ∈ dkB d m (.slice none 0 0) fv gs, x ∈ dkB d m U fv fs ∨ w4.heap.size ≤ x)) (fun _ wr => wr.rangeLeft m w4.heap.size)
        case atStart =>
          have k5 : Kept [] w4 w5 := (Kept.refl [] w4).grown hg5 (by intro k9 hk9; cases hk9)
          exact ⟨_, _, F2, hide hrg5, hide ((unhide HD4).kept k5 (by simp)), hide (setL_start (unhide HLK)).symm, hide rfl, hide (ownsMap_heap (unhide HKO) (k5.block kb (unhide HKO).lt (by simp))), hide (k5.mono (by simp)), hide (fun x hx => .inl (unhide HBF x hx))⟩
        case round =>
          clear hrg5 hg5 hs5
          obtain ⟨left, cnt, gs, HRG, HG, HGA, HGK, HKO5, HKW, HBN⟩ := hrel
          go_wp2_with (at_next; refine wpList_next_ranges _ rfl _ rfl 9 keyS ptrElem Value.string ptrO (fun key kl hk => by obtain ⟨x, hx, _⟩ := keyStr_inv hk; exact ⟨x, hx⟩) (fun v y hv => by rcases ptrElem_inv hv with ⟨rfl, _⟩ | ⟨g, rfl, _⟩; exact ⟨none, rfl⟩; exact ⟨some g, rfl⟩) m w4.heap.size n2 D left cnt rfl (unhide HRG) ?_ ?_)
          · intro hc0 hl0
            have hrow := (unhide HG).row
            unfold DRow at hrow
            have e3 := cell_of_row _ _ 3 _ _ _ hrow
            have e4 := cell_of_row _ _ 4 _ _ _ hrow
            have e5 := cell_of_row _ _ 5 _ _ _ hrow
            have e6 := cell_of_row _ _ 6 _ _ _ hrow
            simp at e3 e4 e5 e6
            have z3 := frozen_of_row _ _ 3 _ _ hrow
            have z4 := frozen_of_row _ _ 4 _ _ hrow
            have z5 := frozen_of_row _ _ 5 _ _ hrow
            have z6 := frozen_of_row _ _ 6 _ _ hrow
            have HRW := hide hrow
            have HL0 := hide hl0
            clear hrow hl0 hc0
            go_wp2_with fail
            have kS : Kept [d] wr ((((wr.setCell ⟨d, 3, none⟩ (.map none)).setCell ⟨d, 4, none⟩ (.int .i64 0)).setCell ⟨d, 5, none⟩ (.int .i64 0)).setCell ⟨d, 6, none⟩ (.bool false)) := ((((Kept.refl [d] wr).setCell (p := ⟨d, 3, none⟩) (.inl (by simp)) _).setCell (p := ⟨d, 4, none⟩) (.inl (by simp)) _).setCell (p := ⟨d, 5, none⟩) (.inl (by simp)) _).setCell (p := ⟨d, 6, none⟩) (.inl (by simp)) _
            have hr9 := heap_setCell_same _ _ 6 _ _ (.bool false) (heap_setCell_same _ _ 5 _ _ (.int .i64 0) (heap_setCell_same _ _ 4 _ _ (.int .i64 0) (heap_setCell_same wr _ 3 _ _ (.map none) (unhide HRW))))
            have hU9 := unhide HUU
            clear HUU
            subst hU9
            refine bodyPost_end (v := .tuple #[]) (results_none rfl _ _ _) rfl ⟨gs, rfl, (unhide HG).turnedF kS hr9 (.inl ⟨rfl, fun _ => rfl⟩) (by simp [mblk]), (unhide HGA).trans (unhide HAF left (unhide HL0)), ((unhide HKC).trans (unhide HKW) (fun x hx => .inl hx)).trans kS (by intro x hx; simp only [List.mem_singleton] at hx; subst hx; left; simp [dkB]), ?_⟩
            intro x hx
            have h8 : x ∈ dkB d m (.slice none 0 0) fv gs := by
              simp only [dkB, mblk, List.mem_cons, List.mem_append, List.mem_flatMap, List.not_mem_nil, or_false] at hx ⊢
              rcases hx with h | h | h | h
              · exact .inl h
              · exact .inr (.inl h)
              · exact .inr (.inr (.inl (.inl h)))
              · exact .inr (.inr (.inr h))
            rcases unhide HBN x h8 with h9 | h9
            · exact .inl h9
            · exact .inr (by have := unhide HS4; omega)
          · intro x c kl yd yp w2 cnt2 hkey hlk hv hat hrg2 hlt2 hg2 hs2 hen
            obtain ⟨x', ex, rfl⟩ := keyStr_inv hkey
            injection ex with ex
            subst ex
            obtain ⟨g, hlg, rfl⟩ : ∃ g, look F2 x.data.toList = some g ∧ c = some g := by
              have h1 := (unhide HLK x.data.toList).2
              cases hl : look F2 x.data.toList with
              | none =>
                rw [hl] at h1
                have h2 := (h1 .nil).symm.trans (hat .nil)
                have h3 := (h1 (.lit (.bool true))).symm.trans (hat (.lit (.bool true)))
                rw [← h2] at h3
                cases h3
              | some g =>
                rw [hl] at h1
                have h2 := (h1 .nil).symm.trans (hat .nil)
                refine ⟨g, rfl, ?_⟩
                rcases ptrElem_inv hv with ⟨h4, h5⟩ | ⟨g', h4, h5⟩
                · rw [(Prod.mk.inj h5).1] at h2; cases h2
                · rw [(Prod.mk.inj h5).1] at h2
                  simp at h2
                  have h6 : g' = g := by omega
                  subst h6
                  cases c with
                  | none => simp [ptrO] at h4
                  | some c => simp [ptrO] at h4; rw [h4]
            obtain ⟨f, hfm, hfg, hfn⟩ := look_mem (by rw [look_abs_eq (unhide HGK)]; exact hlg : look gs x.data.toList = some g)
            have hfx := ba_ext hfn
            subst hfx hfg
            have hit := ranges_iter (unhide HRG)
            have k2 : Kept [w4.heap.size] wr w2 := (Kept.refl _ wr).grown hg2 (by intro k9 hk9; injection hk9 with hk9; subst hk9; simp)
            have HG2 := hide ((unhide HG).kept k2 (by intro x9 hx9 hm9; simp only [List.mem_singleton] at hm9; subst hm9; exact (unhide HG).noIter hit hx9))
            have HKO2 := hide (ownsMap_heap (unhide HKO5) (k2.block kb (unhide HKO5).lt (by
              simp only [List.mem_singleton]
              intro e9
              obtain ⟨a1, a2, a3, a4, hit⟩ := hit
              obtain ⟨es, ck, he, _⟩ := unhide HKO5
              rw [e9, hit] at he
              cases he)))
            have HKW2 := hide ((unhide HKW).trans k2 (by intro x9 hx9; simp only [List.mem_singleton] at hx9; subst hx9; exact .inr (Nat.le_refl _)))
            have HRG2 := hide hrg2
            have HLK2 := hide hlk
            have HLT2 := hide hlt2
            have HFM2 := hide hfm
            have hkey2 := WideMaps.keyOf_string_mk Tryz.underlying9 (s := f.nm) (by
              have h9 : f.nm ∈ F2.map (fun f => f.nm) := by
                have h10 := congrArg (List.map Prod.fst) (unhide HGK)
                rw [List.map_map, List.map_map] at h10
                show f.nm ∈ List.map (Prod.fst ∘ fun f => (f.nm, f.g)) F2
                rw [← h10]
                exact List.mem_map.2 ⟨f, hfm, rfl⟩
              obtain ⟨a, ha, hae⟩ := List.mem_map.1 h9
              have := unhide HNL a ha
              rw [← hae]
              unfold maxLen
              omega)
            have hlook := fun j : Nat => look_keep (ownsMap_heap (w' := w2.drewN j) (unhide HKO2) rfl) (unhide HKM) f.nm hkey2
            obtain ⟨K, hK⟩ : ∃ K, (fstK ks f.nm.data.toList).getD zK = K := ⟨_, rfl⟩
            rw [hK] at hlook
            have HKK := hide hK
            have hBF : f.bs.length ≤ 140737488350000 := by
              have h3 : absF f ∈ (F2.map absF).map (setL ks sec left) := by rw [← unhide HGA]; exact List.mem_map.2 ⟨f, hfm, rfl⟩
              obtain ⟨b, hb, hbe⟩ := List.mem_map.1 h3
              obtain ⟨b0, hb0, rfl⟩ := List.mem_map.1 hb
              have h4 : (absF b0).nm = f.nm := by rw [← setL_nm ks sec left (absF b0), hbe]; rfl
              have h5 : setL ks sec left (absF b0) = absF b0 := by unfold setL; rw [h4, hlk]; rfl
              rw [h5] at hbe
              have h6 := unhide HBL b0 hb0
              have h7 : b0.bs = f.bs := congrArg DF.bs hbe
              rw [← h7]
              exact h6
            have s0 := cell_of_row _ _ 0 _ _ _ (unhide HG2).row
            simp at s0
            clear hkey2 hK hfn hlg hat hv hkey hrg2 hg2 hs2 hlt2 hlk k2 hit hfm
            simp only [ptrO, Option.map_some] at hen ⊢
            go_upto_region 12 with fail
            refine wp_quiet_tail 8 (by kernel_rfl) (by kernel_rfl) ?_
            simp only [List.take_succ_cons, List.take_zero, List.drop_succ_cons, List.drop_zero]
            repeat (go_big_quiet_step (fail))
            refine wpQuiet_nil ?_
            rintro _ ⟨n9, rfl⟩
            go_wp2_with fail
            refine Calls.mono (settle_any f _ K sec ((unhide HG2).files f (unhide HFM2)) hBF hs1 hs2) ?_
            rintro e w6 ⟨v', rfl, hf6, hk6, hv6⟩
            have HF6 := hide hf6
            have HK6 := hide hk6
            have HV6 := hide hv6
            clear hf6 hk6 hv6 hlook s0 hen
            go_wp2_with fail
            have hfile := (unhide HG2).files f (unhide HFM2)
            have hmo : m ∉ f.g :: blk f.v := by
              obtain ⟨n7, D7, ho7, _⟩ := (unhide HG2).map
              intro hx
              rcases List.mem_cons.1 hx with hx | hx
              · exact map_ne ho7 hfile.1 hx.symm
              · obtain ⟨cs, hc⟩ := owns_cells hfile.2.1 hx
                exact map_ne ho7 hc rfl
            have hin : ∀ x ∈ f.g :: blk f.v, x ∈ dkB d m (.slice none 0 0) fv gs := by
              intro x hx
              rcases List.mem_cons.1 hx with rfl | hx
              · exact dkB_g (unhide HFM2)
              · exact dkB_v (unhide HFM2) hx
            have hro : w4.heap.size ∉ f.g :: blk f.v := fun hx => (unhide HG2).noIter (ranges_iter (unhide HRG2)) (hin _ hx)
            have k6 : Kept (f.g :: blk f.v) w2 w6 := ((Kept.refl _ w2).drewN n9).trans (unhide HK6) (fun x hx => .inl hx)
            have hrgN := ranges_heap (unhide HRG2) (k6.block m (unhide HRG2).owns.lt hmo) (k6.block w4.heap.size (unhide HRG2).lt hro)
            have hkoN : w6.ownsMap Tryz.prog 9 keepElem kb kn KD := ownsMap_heap (unhide HKO2) (k6.block kb (unhide HKO2).lt (by
              intro hx
              rcases List.mem_cons.1 hx with hx | hx
              · exact map_ne (unhide HKO2) hfile.1 hx.symm
              · obtain ⟨cs, hc⟩ := owns_cells hfile.2.1 hx
                exact map_ne (unhide HKO2) hc rfl))
            have hd2 := ((unhide HG2).kept ((Kept.refl [] w2).drewN n9) (by simp)).upd (unhide HFM2) (unhide HK6) (unhide HF6) (unhide HV6)
            refine ⟨⟨_, cnt2, _, hide hrgN, hide hd2, hide ?_, hide ((upF_key _ _ _ _ _).trans (unhide HGK)), hide hkoN, hide ((unhide HKW2).trans k6 ?_), hide ?_⟩, ?_⟩
            · have h9 := setL_step (ks := ks) (sec := sec) (left := left) (unhide HND) (unhide HDF) (unhide HG).apart (unhide HGA) (unhide HFM2) (unhide HLK2) v'
              rw [unhide HKK] at h9
              exact h9
            · intro x hx
              exact unhide HBN x (hin x hx)
            · intro x hx
              rcases upF_blk hx with h9 | h9
              · exact unhide HBN x h9
              · rcases unhide HV6 x h9 with h10 | h10
                · exact unhide HBN x (dkB_v (unhide HFM2) h10)
                · exact .inr (Nat.le_trans (unhide HKW2).size h10)
            · rw [hrgN.left_eq, (unhide HRG).left_eq]
              exact unhide HLT2
end Go.Proofs.YtejchncdimcdbaaGreatDoor
namespace Go.Proofs
open Go.Shelf
def Tryz.lays125_ren : Go.Shelf.Ren := ⟨fun | 125 => 159 | 128 => 207 | 129 => 208 | n => n, fun | 46 => 200 | 3 => 3 | 51 => 242 | 53 => 59 | 4 => 4 | 5 => 5 | 9 => 9 | n => n, fun | n => n⟩
theorem Tryz.lays125 : Go.Proofs.Lays.n125 Tryz.prog Tryz.lays125_ren := {
  mixed := by kernel_rfl
  f125 := Tryz.func159.trans (congrArg some (by kernel_rfl))
  f128 := Tryz.func207.trans (congrArg some (by kernel_rfl))
  f129 := Tryz.func208.trans (congrArg some (by kernel_rfl))
  t3 := Tryz.underlying3
  a3 := Tryz.isAgg3
  z3 := Tryz.sizeOf3
  v3 := Tryz.zeroValue3
  t4 := Tryz.underlying4
  a4 := Tryz.isAgg4
  z4 := Tryz.sizeOf4
  v4 := Tryz.zeroValue4
  t5 := Tryz.underlying5
  a5 := Tryz.isAgg5
  z5 := Tryz.sizeOf5
  v5 := Tryz.zeroValue5
  t9 := Tryz.underlying9
  a9 := Tryz.isAgg9
  z9 := Tryz.sizeOf9
  v9 := Tryz.zeroValue9
  t46 := Tryz.underlying200
  a46 := Tryz.isAgg200
  z46 := Tryz.sizeOf200
  v46 := Tryz.zeroValue200
  t51 := Tryz.underlying242
  a51 := Tryz.isAgg242
  z51 := Tryz.sizeOf242
  v51 := Tryz.zeroValue242
  t53 := Tryz.underlying59
  a53 := Tryz.isAgg59
  z53 := Tryz.sizeOf59
  v53 := Tryz.zeroValue59 }
theorem Tryz.bits_Len (x : Int) (w : World) (h0 : 0 ≤ x) (h1 : x ≤ 18446744073709551615) :
    Calls Tryz.prog 159 #[.int .u64 x] w fun e w' => e = .returned (.int .i64 (Lib.bitLen x.toNat)) ∧ w' = w := Any.bits_Len Tryz.lays125 x w h0 h1
def Tryz.lays283_ren : Go.Shelf.Ren := ⟨fun | 283 => 168 | n => n, fun | 3 => 3 | 9 => 9 | 4 => 4 | n => n, fun | n => n⟩
theorem Tryz.lays283 : Go.Proofs.Lays.n283 Tryz.prog Tryz.lays283_ren := {
  mixed := by kernel_rfl
  f283 := Tryz.func168.trans (congrArg some (by kernel_rfl))
  t3 := Tryz.underlying3
  a3 := Tryz.isAgg3
  z3 := Tryz.sizeOf3
  v3 := Tryz.zeroValue3
  t4 := Tryz.underlying4
  a4 := Tryz.isAgg4
  z4 := Tryz.sizeOf4
  v4 := Tryz.zeroValue4
  t9 := Tryz.underlying9
  a9 := Tryz.isAgg9
  z9 := Tryz.sizeOf9
  v9 := Tryz.zeroValue9 }
open Go.Lib in
theorem Tryz.internal_strconv_small (i : Nat) (h : i < 100) (w : World) :
    Calls Tryz.prog 168 #[.int .i64 i] w fun e w' => e = .returned (.string ⟨(Lib.decDigits i).toArray⟩) ∧ w' = w := Any.internal_strconv_small Tryz.lays283 i h w
def Tryz.laysM284_ren : Go.Shelf.Ren := ⟨fun | 284 => 169 | 129 => 208 | 317 => 218 | 318 => 219 | n => n, fun | 53 => 59 | 3 => 3 | 212 => 307 | 0 => 0 | 4 => 4 | 46 => 200 | 5 => 5 | 9 => 9 | n => n, fun | 17 => 0 | n => n⟩
theorem Tryz.laysM284 : Go.Proofs.LaysM.n284 Tryz.prog Tryz.laysM284_ren := {
  mixed := by kernel_rfl
  f129 := Tryz.func208.trans (congrArg some (by kernel_rfl))
  f284 := Tryz.func169.trans (congrArg some (by kernel_rfl))
  f317 := Tryz.func218.trans (congrArg some (by kernel_rfl))
  f318 := Tryz.func219.trans (congrArg some (by kernel_rfl))
  t0 := Tryz.underlying0
  a0 := Tryz.isAgg0
  z0 := Tryz.sizeOf0
  v0 := Tryz.zeroValue0
  t3 := Tryz.underlying3
  a3 := Tryz.isAgg3
  z3 := Tryz.sizeOf3
  v3 := Tryz.zeroValue3
  t4 := Tryz.underlying4
  a4 := Tryz.isAgg4
  z4 := Tryz.sizeOf4
  v4 := Tryz.zeroValue4
  t5 := Tryz.underlying5
  a5 := Tryz.isAgg5
  z5 := Tryz.sizeOf5
  v5 := Tryz.zeroValue5
  t9 := Tryz.underlying9
  a9 := Tryz.isAgg9
  z9 := Tryz.sizeOf9
  v9 := Tryz.zeroValue9
  t46 := Tryz.underlying200
  a46 := Tryz.isAgg200
  z46 := Tryz.sizeOf200
  v46 := Tryz.zeroValue200
  t53 := Tryz.underlying59
  a53 := Tryz.isAgg59
  z53 := Tryz.sizeOf59
  v53 := Tryz.zeroValue59
  t212 := Tryz.underlying307
  a212 := Tryz.isAgg307
  z212 := Tryz.sizeOf307
  v212 := Tryz.zeroValue307
  g17 := by kernel_rfl
  i0 := by kernel_rfl
  i3 := by kernel_rfl
  i4 := by kernel_rfl
  i5 := by kernel_rfl
  i9 := by kernel_rfl
  i46 := by kernel_rfl
  i53 := by kernel_rfl
  i212 := by kernel_rfl
  m17 := by kernel_rfl }
open Go.Lib in
theorem Tryz.internal_strconv_numDigits (u : Nat) (h1 : 1 ≤ u) (h2 : u < 18446744073709551616) (w : World) (htab : Lib.TabIs Tryz.prog w "internal/strconv.uint64pow10" .u64 Lib.pow10Tab) :
    Calls Tryz.prog 169 #[.int .u64 u] w fun e w' => e = .returned (.int .i64 (Lib.nDigits u)) ∧ w' = w := Any.internal_strconv_numDigits Tryz.laysM284 u h1 h2 w htab
def Tryz.lays285_ren : Go.Shelf.Ren := ⟨fun | 285 => 170 | n => n, fun | 37 => 72 | 53 => 59 | 3 => 3 | 4 => 4 | 51 => 242 | 9 => 9 | 5 => 5 | 0 => 0 | n => n, fun | n => n⟩
theorem Tryz.lays285 : Go.Proofs.Lays.n285 Tryz.prog Tryz.lays285_ren := {
  mixed := by kernel_rfl
  f285 := Tryz.func170.trans (congrArg some (by kernel_rfl))
  t0 := Tryz.underlying0
  a0 := Tryz.isAgg0
  z0 := Tryz.sizeOf0
  v0 := Tryz.zeroValue0
  t3 := Tryz.underlying3
  a3 := Tryz.isAgg3
  z3 := Tryz.sizeOf3
  v3 := Tryz.zeroValue3
  t4 := Tryz.underlying4
  a4 := Tryz.isAgg4
  z4 := Tryz.sizeOf4
  v4 := Tryz.zeroValue4
  t5 := Tryz.underlying5
  a5 := Tryz.isAgg5
  z5 := Tryz.sizeOf5
  v5 := Tryz.zeroValue5
  t9 := Tryz.underlying9
  a9 := Tryz.isAgg9
  z9 := Tryz.sizeOf9
  v9 := Tryz.zeroValue9
  t37 := Tryz.underlying72
  a37 := Tryz.isAgg72
  z37 := Tryz.sizeOf72
  v37 := Tryz.zeroValue72
  t51 := Tryz.underlying242
  a51 := Tryz.isAgg242
  z51 := Tryz.sizeOf242
  v51 := Tryz.zeroValue242
  t53 := Tryz.underlying59
  a53 := Tryz.isAgg59
  z53 := Tryz.sizeOf59
  v53 := Tryz.zeroValue59 }
open Go.RowKit Go.Sort Go.Lib in
theorem Tryz.internal_strconv_formatBase10 (blk off cap : Nat) (u : Nat) (d : Array UInt8) (w : World) (hH : Holds (fun (b : UInt8) => Value.int .u8 (b.toNat : Int)) w blk off d) (hu : u < 10 ^ d.size) (hu64 : u < 18446744073709551616) (hsz : d.size < 4611686018427387904) :
    Calls Tryz.prog 170 #[.slice (some ⟨blk, off, none⟩) d.size cap, .int .u64 u] w fun e w' =>
      e = .returned (.tuple #[]) ∧ ∃ (n v' : Nat) (dk : Array UInt8), w' = (putRow (fun (b : UInt8) => Value.int .u8 (b.toNat : Int)) w blk off dk).drewN n ∧ FmtInv d.size u 0 v' dk := Any.internal_strconv_formatBase10 Tryz.lays285 blk off cap u d w hH hu hu64 hsz
def Tryz.laysPu14_ren : Go.Shelf.Ren := ⟨fun | 14 => 128 | 16 => 177 | 17 => 178 | 19 => 224 | 20 => 225 | 21 => 226 | 22 => 227 | 23 => 228 | 24 => 229 | 25 => 247 | 27 => 249 | 26 => 248 | 28 => 251 | 29 => 252 | 30 => 168 | 31 => 169 | 32 => 170 | 33 => 171 | 35 => 208 | 34 => 218 | 36 => 219 | 37 => 220 | 38 => 221 | 39 => 245 | 40 => 246 | n => n, fun | 9 => 9 | 3 => 3 | 22 => 59 | 24 => 209 | 25 => 214 | 4 => 4 | 34 => 312 | 5 => 5 | 36 => 200 | 37 => 72 | 0 => 0 | 39 => 314 | 21 => 21 | 44 => 327 | 47 => 269 | 50 => 336 | 48 => 334 | 2 => 2 | 52 => 260 | 55 => 263 | 59 => 307 | 60 => 242 | 20 => 20 | 61 => 308 | 65 => 332 | 66 => 333 | 67 => 168 | n => n, fun | 0 => 2 | 1 => 3 | 2 => 0 | 3 => 4 | 4 => 5 | n => n⟩
theorem Tryz.laysPu14 : Go.Proofs.LaysPu.n14 Tryz.prog Tryz.laysPu14_ren := {
  mixed := by kernel_rfl
  f14 := Tryz.func128.trans (congrArg some (by kernel_rfl))
  f16 := Tryz.func177.trans (congrArg some (by kernel_rfl))
  f17 := Tryz.func178.trans (congrArg some (by kernel_rfl))
  f19 := Tryz.func224.trans (congrArg some (by kernel_rfl))
  f20 := Tryz.func225.trans (congrArg some (by kernel_rfl))
  f21 := Tryz.func226.trans (congrArg some (by kernel_rfl))
  f22 := Tryz.func227.trans (congrArg some (by kernel_rfl))
  f23 := Tryz.func228.trans (congrArg some (by kernel_rfl))
  f24 := Tryz.func229.trans (congrArg some (by kernel_rfl))
  f25 := Tryz.func247.trans (congrArg some (by kernel_rfl))
  f26 := Tryz.func248.trans (congrArg some (by kernel_rfl))
  f27 := Tryz.func249.trans (congrArg some (by kernel_rfl))
  f28 := Tryz.func251.trans (congrArg some (by kernel_rfl))
  f29 := Tryz.func252.trans (congrArg some (by kernel_rfl))
  f30 := Tryz.func168.trans (congrArg some (by kernel_rfl))
  f31 := Tryz.func169.trans (congrArg some (by kernel_rfl))
  f32 := Tryz.func170.trans (congrArg some (by kernel_rfl))
  f33 := Tryz.func171.trans (congrArg some (by kernel_rfl))
  f34 := Tryz.func218.trans (congrArg some (by kernel_rfl))
  f35 := Tryz.func208.trans (congrArg some (by kernel_rfl))
  f36 := Tryz.func219.trans (congrArg some (by kernel_rfl))
  f37 := Tryz.func220.trans (congrArg some (by kernel_rfl))
  f38 := Tryz.func221.trans (congrArg some (by kernel_rfl))
  f39 := Tryz.func245.trans (congrArg some (by kernel_rfl))
  f40 := Tryz.func246.trans (congrArg some (by kernel_rfl))
  t0 := Tryz.underlying0
  a0 := Tryz.isAgg0
  z0 := Tryz.sizeOf0
  v0 := Tryz.zeroValue0
  i0 := by kernel_rfl
  t2 := Tryz.underlying2
  a2 := Tryz.isAgg2
  z2 := Tryz.sizeOf2
  v2 := Tryz.zeroValue2
  i2 := by kernel_rfl
  t3 := Tryz.underlying3
  a3 := Tryz.isAgg3
  z3 := Tryz.sizeOf3
  v3 := Tryz.zeroValue3
  i3 := by kernel_rfl
  t4 := Tryz.underlying4
  a4 := Tryz.isAgg4
  z4 := Tryz.sizeOf4
  v4 := Tryz.zeroValue4
  i4 := by kernel_rfl
  t5 := Tryz.underlying5
  a5 := Tryz.isAgg5
  z5 := Tryz.sizeOf5
  v5 := Tryz.zeroValue5
  i5 := by kernel_rfl
  t9 := Tryz.underlying9
  a9 := Tryz.isAgg9
  z9 := Tryz.sizeOf9
  v9 := Tryz.zeroValue9
  i9 := by kernel_rfl
  t20 := Tryz.underlying20
  a20 := Tryz.isAgg20
  z20 := Tryz.sizeOf20
  v20 := Tryz.zeroValue20
  i20 := by kernel_rfl
  t21 := Tryz.underlying21
  a21 := Tryz.isAgg21
  z21 := Tryz.sizeOf21
  v21 := Tryz.zeroValue21
  i21 := by kernel_rfl
  t22 := Tryz.underlying59
  a22 := Tryz.isAgg59
  z22 := Tryz.sizeOf59
  v22 := Tryz.zeroValue59
  i22 := by kernel_rfl
  t24 := Tryz.underlying209
  a24 := Tryz.isAgg209
  z24 := Tryz.sizeOf209
  v24 := Tryz.zeroValue209
  i24 := by kernel_rfl
  t25 := Tryz.underlying214
  a25 := Tryz.isAgg214
  z25 := Tryz.sizeOf214
  v25 := Tryz.zeroValue214
  i25 := by kernel_rfl
  t34 := Tryz.underlying312
  a34 := Tryz.isAgg312
  z34 := Tryz.sizeOf312
  v34 := Tryz.zeroValue312
  i34 := by kernel_rfl
  c34 := by kernel_rfl
  t36 := Tryz.underlying200
  a36 := Tryz.isAgg200
  z36 := Tryz.sizeOf200
  v36 := Tryz.zeroValue200
  i36 := by kernel_rfl
  t37 := Tryz.underlying72
  a37 := Tryz.isAgg72
  z37 := Tryz.sizeOf72
  v37 := Tryz.zeroValue72
  i37 := by kernel_rfl
  t39 := Tryz.underlying314
  a39 := Tryz.isAgg314
  z39 := Tryz.sizeOf314
  v39 := Tryz.zeroValue314
  i39 := by kernel_rfl
  t44 := Tryz.underlying327
  a44 := Tryz.isAgg327
  z44 := Tryz.sizeOf327
  v44 := Tryz.zeroValue327
  i44 := by kernel_rfl
  t47 := Tryz.underlying269
  a47 := Tryz.isAgg269
  z47 := Tryz.sizeOf269
  v47 := Tryz.zeroValue269
  i47 := by kernel_rfl
  t48 := Tryz.underlying334
  a48 := Tryz.isAgg334
  z48 := Tryz.sizeOf334
  v48 := Tryz.zeroValue334
  i48 := by kernel_rfl
  t50 := Tryz.underlying336
  a50 := Tryz.isAgg336
  z50 := Tryz.sizeOf336
  v50 := Tryz.zeroValue336
  i50 := by kernel_rfl
  t52 := Tryz.underlying260
  a52 := Tryz.isAgg260
  z52 := Tryz.sizeOf260
  v52 := Tryz.zeroValue260
  i52 := by kernel_rfl
  t55 := Tryz.underlying263
  a55 := Tryz.isAgg263
  z55 := Tryz.sizeOf263
  v55 := Tryz.zeroValue263
  i55 := by kernel_rfl
  t59 := Tryz.underlying307
  a59 := Tryz.isAgg307
  z59 := Tryz.sizeOf307
  v59 := Tryz.zeroValue307
  i59 := by kernel_rfl
  t60 := Tryz.underlying242
  a60 := Tryz.isAgg242
  z60 := Tryz.sizeOf242
  v60 := Tryz.zeroValue242
  i60 := by kernel_rfl
  t61 := Tryz.underlying308
  a61 := Tryz.isAgg308
  z61 := Tryz.sizeOf308
  t65 := Tryz.underlying332
  a65 := Tryz.isAgg332
  z65 := Tryz.sizeOf332
  v65 := Tryz.zeroValue332
  i65 := by kernel_rfl
  t66 := Tryz.underlying333
  a66 := Tryz.isAgg333
  z66 := Tryz.sizeOf333
  v66 := Tryz.zeroValue333
  i66 := by kernel_rfl
  t67 := Tryz.underlying168
  a67 := Tryz.isAgg168
  z67 := Tryz.sizeOf168
  v67 := Tryz.zeroValue168
  i67 := by kernel_rfl
  g0 := by kernel_rfl
  m0 := by kernel_rfl
  g1 := by kernel_rfl
  m1 := by kernel_rfl
  g2 := by kernel_rfl
  m2 := by kernel_rfl
  g3 := by kernel_rfl
  m3 := by kernel_rfl
  g4 := by kernel_rfl
  m4 := by kernel_rfl }
open Go.RowKit in
theorem Tryz.strconv_ParseUint_10_at64_ok (s : ByteArray) (hmax : s.size ≤ 9223372036854775806) (u : Nat) (h : Lib.parseUintB 64 s.data.toList = .ok u) (w : World) :
    Calls Tryz.prog 128 #[.string s, .int .i64 10, .int .i64 64] w fun e w' => e = .returned (.tuple #[.int .u64 u, .nilIface]) ∧ (w' = w ∨ w' = Lib.bytesWorld w 5 s) := Any.strconv_ParseUint_10_at64_ok Tryz.laysPu14 s hmax u h w
open Go.RowKit in
theorem Tryz.strconv_ParseUint_10_at64_syntax_var (s : ByteArray) (hlim : s.size ≤ 281474976710656) (h : Lib.parseUintB 64 s.data.toList = .«syntax») (tp : TypeId) (p : Value) (w : World) (hvar : w.var? Tryz.prog "strconv.ErrSyntax" = some #[.iface tp p]) :
    Calls Tryz.prog 128 #[.string s, .int .i64 10, .int .i64 64] w fun e w' => ∃ N, e = .returned (.tuple #[.int .u64 0, .iface 314 (.pointer (some ⟨N, 0, none⟩))]) ∧ w.heap.size ≤ N ∧ w'.heap[N]? = some (.cells #[.string ⟨#[80, 97, 114, 115, 101, 85, 105, 110, 116]⟩, .string s, .iface tp p] 327 (0, 0)) ∧ Below w.heap.size w w' := Any.strconv_ParseUint_10_at64_syntax_var Tryz.laysPu14 s hlim h tp p w hvar
open Go.RowKit in
theorem Tryz.strconv_ParseUint_10_at64_range_var (s : ByteArray) (hlim : s.size ≤ 281474976710656) (h : Lib.parseUintB 64 s.data.toList = .range) (tp : TypeId) (p : Value) (w : World) (hvar : w.var? Tryz.prog "strconv.ErrRange" = some #[.iface tp p]) :
    Calls Tryz.prog 128 #[.string s, .int .i64 10, .int .i64 64] w fun e w' => ∃ N, e = .returned (.tuple #[.int .u64 18446744073709551615, .iface 314 (.pointer (some ⟨N, 0, none⟩))]) ∧ w.heap.size ≤ N ∧ w'.heap[N]? = some (.cells #[.string ⟨#[80, 97, 114, 115, 101, 85, 105, 110, 116]⟩, .string s, .iface tp p] 327 (0, 0)) ∧ Below w.heap.size w w' := Any.strconv_ParseUint_10_at64_range_var Tryz.laysPu14 s hlim h tp p w hvar
def Tryz.lays190_ren : Go.Shelf.Ren := ⟨fun | 190 => 112 | 125 => 159 | 258 => 158 | 128 => 207 | 129 => 208 | 302 => 198 | 303 => 199 | 304 => 200 | 305 => 201 | 306 => 202 | 307 => 203 | 308 => 204 | 309 => 205 | 310 => 206 | 333 => 236 | 329 => 237 | 330 => 238 | 334 => 239 | 335 => 240 | 336 => 241 | 344 => 250 | n => n, fun | 31 => 76 | 9 => 9 | 3 => 3 | 46 => 200 | 0 => 0 | 51 => 242 | 53 => 59 | 4 => 4 | 183 => 291 | 182 => 290 | 131 => 142 | 5 => 5 | 218 => 318 | 222 => 321 | 228 => 329 | 229 => 330 | n => n, fun | n => n⟩
theorem Tryz.lays190 : Go.Proofs.Lays.n190 Tryz.prog Tryz.lays190_ren := {
  mixed := by kernel_rfl
  f125 := Tryz.func159.trans (congrArg some (by kernel_rfl))
  f128 := Tryz.func207.trans (congrArg some (by kernel_rfl))
  f129 := Tryz.func208.trans (congrArg some (by kernel_rfl))
  f190 := Tryz.func112.trans (congrArg some (by kernel_rfl))
  f258 := Tryz.func158.trans (congrArg some (by kernel_rfl))
  f302 := Tryz.func198.trans (congrArg some (by kernel_rfl))
  f303 := Tryz.func199.trans (congrArg some (by kernel_rfl))
  f304 := Tryz.func200.trans (congrArg some (by kernel_rfl))
  f305 := Tryz.func201.trans (congrArg some (by kernel_rfl))
  f306 := Tryz.func202.trans (congrArg some (by kernel_rfl))
  f307 := Tryz.func203.trans (congrArg some (by kernel_rfl))
  f308 := Tryz.func204.trans (congrArg some (by kernel_rfl))
  f309 := Tryz.func205.trans (congrArg some (by kernel_rfl))
  f310 := Tryz.func206.trans (congrArg some (by kernel_rfl))
  f329 := Tryz.func237.trans (congrArg some (by kernel_rfl))
  f330 := Tryz.func238.trans (congrArg some (by kernel_rfl))
  f333 := Tryz.func236.trans (congrArg some (by kernel_rfl))
  f334 := Tryz.func239.trans (congrArg some (by kernel_rfl))
  f335 := Tryz.func240.trans (congrArg some (by kernel_rfl))
  f336 := Tryz.func241.trans (congrArg some (by kernel_rfl))
  f344 := Tryz.func250.trans (congrArg some (by kernel_rfl))
  t0 := Tryz.underlying0
  a0 := Tryz.isAgg0
  z0 := Tryz.sizeOf0
  v0 := Tryz.zeroValue0
  t3 := Tryz.underlying3
  a3 := Tryz.isAgg3
  z3 := Tryz.sizeOf3
  v3 := Tryz.zeroValue3
  t4 := Tryz.underlying4
  a4 := Tryz.isAgg4
  z4 := Tryz.sizeOf4
  v4 := Tryz.zeroValue4
  t5 := Tryz.underlying5
  a5 := Tryz.isAgg5
  z5 := Tryz.sizeOf5
  v5 := Tryz.zeroValue5
  t9 := Tryz.underlying9
  a9 := Tryz.isAgg9
  z9 := Tryz.sizeOf9
  v9 := Tryz.zeroValue9
  t31 := Tryz.underlying76
  a31 := Tryz.isAgg76
  z31 := Tryz.sizeOf76
  v31 := Tryz.zeroValue76
  t46 := Tryz.underlying200
  a46 := Tryz.isAgg200
  z46 := Tryz.sizeOf200
  v46 := Tryz.zeroValue200
  t51 := Tryz.underlying242
  a51 := Tryz.isAgg242
  z51 := Tryz.sizeOf242
  v51 := Tryz.zeroValue242
  t53 := Tryz.underlying59
  a53 := Tryz.isAgg59
  z53 := Tryz.sizeOf59
  v53 := Tryz.zeroValue59
  t131 := Tryz.underlying142
  a131 := Tryz.isAgg142
  z131 := Tryz.sizeOf142
  v131 := Tryz.zeroValue142
  t182 := Tryz.underlying290
  a182 := Tryz.isAgg290
  z182 := Tryz.sizeOf290
  v182 := Tryz.zeroValue290
  t183 := Tryz.underlying291
  a183 := Tryz.isAgg291
  z183 := Tryz.sizeOf291
  v183 := Tryz.zeroValue291
  t218 := Tryz.underlying318
  a218 := Tryz.isAgg318
  z218 := Tryz.sizeOf318
  v218 := Tryz.zeroValue318
  t222 := Tryz.underlying321
  a222 := Tryz.isAgg321
  z222 := Tryz.sizeOf321
  v222 := Tryz.zeroValue321
  t228 := Tryz.underlying329
  a228 := Tryz.isAgg329
  z228 := Tryz.sizeOf329
  v228 := Tryz.zeroValue329
  t229 := Tryz.underlying330
  a229 := Tryz.isAgg330
  z229 := Tryz.sizeOf330
  v229 := Tryz.zeroValue330 }
open Go.Sort Go.RowKit in
theorem Tryz.slices_Sort_string (blk off cap : Nat) (ss : List (List UInt8)) (w : World) (hH : Holds encStr w blk off ss.toArray) (hblk : blk < w.heap.size) (hsz : ss.length < 4611686018427387904) :
    Calls Tryz.prog 112 #[.slice (some ⟨blk, off, none⟩) ss.length cap] w fun e w' =>
      e = .returned (.tuple #[]) ∧ ∃ n os, w' = grow (putRow encStr (Sort.ahead w n) blk off (ss.mergeSort fun x y => decide (x ≤ y)).toArray) os := Any.slices_Sort_string Tryz.lays190 blk off cap ss w hH hblk hsz
end Go.Proofs
namespace Go.Proofs.YtejchncdimcdbaaGreatDoor
open Go.RowKit Go.BigFrame
set_option linter.unusedVariables false
set_option linter.unusedSimpArgs false

set_option maxRecDepth 100000 in
set_option maxHeartbeats 1000000 in
theorem insSort_nil (w : World) : Calls Tryz.prog 198 #[.slice none 0 0, .int .i64 0, .int .i64 0] w fun e w' => e = .returned (.tuple #[]) ∧ w' = w := by
  go_enter Tryz.func198, Tryz.ntmps198
  go_wp2_with fail
  go_loopw [6] (fun t wr => t = .int .i64 1 ∧ wr = w) (fun _ _ => 0)
  case atStart => exact ⟨rfl, rfl⟩
  case round =>
    obtain ⟨rfl, rfl⟩ := hrel
    go_wp2_with fail
    exact bodyPost_end (v := .tuple #[]) (results_none rfl _ _ _) rfl ⟨rfl, rfl⟩

set_option maxRecDepth 100000 in
set_option maxHeartbeats 1000000 in
theorem pdq_nil (k : Int) (w : World) : Calls Tryz.prog 158 #[.slice none 0 0, .int .i64 0, .int .i64 0, .int .i64 k] w fun e w' => e = .returned (.tuple #[]) ∧ w' = w := by
  go_enter Tryz.func158, Tryz.ntmps158
  go_wp2_with fail
  go_loopw [1, 2] (fun t1 t2 wr => t1 = .int .i64 0 ∧ t2 = .int .i64 0 ∧ wr = w) (fun _ _ _ => 0)
  case atStart => exact ⟨rfl, rfl, rfl⟩
  case round =>
    obtain ⟨rfl, rfl, rfl⟩ := hrel
    go_wp2_with fail
    refine Calls.mono (insSort_nil _) ?_
    rintro e w1 ⟨rfl, rfl⟩
    go_wp2_with fail
    exact bodyPost_ret (v := .tuple #[]) (results_none rfl _ _ _) rfl ⟨rfl, rfl⟩

set_option maxRecDepth 100000 in
set_option maxHeartbeats 1000000 in
theorem sort_nil (w : World) : Calls Tryz.prog 112 #[.slice none 0 0] w fun e w' => e = .returned (.tuple #[]) ∧ w' = w := by
  go_enter Tryz.func112, Tryz.ntmps112
  go_wp2_with fail
  refine Calls.mono (Tryz.bits_Len 0 w (by omega) (by omega)) ?_
  rintro e w1 ⟨rfl, rfl⟩
  go_wp2_with fail
  refine Calls.mono (pdq_nil _ _) ?_
  rintro e w1 ⟨rfl, rfl⟩
  go_wp2_with fail
  exact bodyPost_end (v := .tuple #[]) (results_none rfl _ _ _) rfl ⟨rfl, rfl⟩
end Go.Proofs.YtejchncdimcdbaaGreatDoor
namespace Go.Proofs.YtejchncdimcdbaaGreatDoor
open Go.RowKit Go.BigFrame Go.Maps Go.Sort
set_option linter.unusedVariables false
set_option linter.unusedSimpArgs false

/-- The names, in the order of their bytes. -/
def srtN (A : List DF) : List (List UInt8) := (A.map fun f => f.nm.data.toList).mergeSort fun x y => decide (x ≤ y)
theorem nodup_names {A : List DF} (h : Dist A) : (A.map fun f => f.nm.data.toList).Nodup := by
  unfold List.Nodup
  rw [List.pairwise_map]
  exact List.Pairwise.imp (fun hab e => hab (ba_ext e)) h
theorem mem_names (fs : List DFile) (x : List UInt8) : (look fs x).isSome = true ↔ x ∈ (fs.map absF).map fun f => f.nm.data.toList := by
  rw [look_isSome]
  unfold findA
  rw [List.find?_isSome, List.mem_map]
  constructor
  · rintro ⟨a, ha, h⟩
    exact ⟨a, ha, by simpa using h⟩
  · rintro ⟨a, ha, h⟩
    exact ⟨a, ha, by simpa using h⟩
theorem sorted_eq {fs : List DFile} {D : DataW Unit} {left : Lit → Bool} {ss : List (List UInt8)} (hD : MapIs D (look fs)) (hd : Dist (fs.map absF)) (hC : Collected D left ss) (hl : ∀ kl, left kl = false) : ss.mergeSort (fun x y => decide (x ≤ y)) = srtN (fs.map absF) := by
  have hp : ss.Perm ((fs.map absF).map fun f => f.nm.data.toList) := by
    rw [List.perm_ext_iff_of_nodup hC.1 (nodup_names hd)]
    intro x
    rw [hC.2 x, hl, (hD x).1, mem_names]
    simp
  exact mergeSort_of_perm hp

set_option maxRecDepth 100000 in
set_option maxHeartbeats 2000000 in
theorem sorted_any (d sec m N : Nat) (w : World) (u fv : Value) (cr op : Int) (off : Bool) (ft : Int → Option Int) (fs : List DFile) (h : DkAt w d sec m N u fv cr op off ft fs) (hd : Dist (fs.map absF)) (hN : N ≤ 1000000000) :
    Calls Tryz.prog 67 #[.pointer (some ⟨d, 0, none⟩)] w fun e w' => ∃ v, e = .returned v ∧ w'.ownsRow w.heap.size 9 1 v (srtN (fs.map absF)).length ((srtN (fs.map absF)).map encStr) ∧ Kept [] w w' := by
  obtain ⟨n, D, hown, hn, hD⟩ := h.map
  have HO := hide hown
  have HD := hide hD
  have HDI := hide hd
  have hrow := h.row
  unfold DRow at hrow
  have c1 := cell_of_row _ _ 1 _ _ _ hrow
  simp at c1
  have HSZ := hide (Nat.le_trans hown.size_le hn)
  clear hown hD hrow hd h
  obtain ⟨i0, hi, hz0, hz1, hz2⟩ := info_parts (show (Tryz.prog.info? 9).map (fun i => (i.zero, i.size, i.bytes)) = some (some (.string ⟨#[]⟩), 1, 16) by kernel_rfl)
  have HI := hide hi
  have HZ0 := hide hz0
  have HZ1 := hide hz1
  have HZ2 := hide hz2
  clear hi hz0 hz1 hz2
  go_enter Tryz.func67, Tryz.ntmps67
  go_wp2_with (at_range; refine wpList_range_own _ rfl _ 97 rfl 9 103 keyS Tryz.underlying97 ptrElem m n D rfl (unhide HO) ?_; intro w0 hrg0 hg0 hs0)
  go_frame
  go_loopw [3] (fun v wr => ∃ (left : Lit → Bool) (cnt : Nat) (ss : List (List UInt8)), Hid (wr.ranges Tryz.prog 9 ptrElem m w.heap.size n D left cnt) ∧ ss.length + cnt ≤ Maps.size D ∧ Hid (wr.ownsRow w.heap.size 9 1 v ss.length (ss.map encStr)) ∧ Hid (Collected D left ss) ∧ Hid (Kept [] w wr)) (fun _ wr => wr.rangeLeft m w.heap.size)
  case atStart => exact ⟨_, _, [], hide hrg0, by simp, hide (World.ownsRow_nil _ _ _ _), hide (Collected.start D), hide ((Kept.refl [] w).grown hg0 (by intro k hk; cases hk))⟩
  case round =>
    clear hrg0 hg0 hs0
    obtain ⟨left, cnt, ss, HRG, hcs, HOW, HC, HK⟩ := hrel
    go_wp2_with (at_next; refine wpList_next_ranges _ rfl _ rfl 9 keyS ptrElem encStr ptrO (fun key kl hk => by obtain ⟨x, rfl, _⟩ := keyStr_inv hk; exact ⟨x.data.toList, rfl⟩) (fun v y hv => by rcases ptrElem_inv hv with ⟨rfl, _⟩ | ⟨g, rfl, _⟩; exact ⟨none, rfl⟩; exact ⟨some g, rfl⟩) m w.heap.size n D left cnt rfl (unhide HRG) ?_ ?_)
    · intro hc0 hl0
      have HSE := hide (sorted_eq (unhide HD) (unhide HDI) (unhide HC) hl0)
      rcases (unhide HOW).2 with ⟨rfl, hln⟩ | ⟨g, cap, cur, rfl, hbase, hb, h1, h2, h3, h4⟩
      · have hss : ss = [] := List.eq_nil_of_length_eq_zero hln
        subst hss
        clear hl0 hc0 c1
        go_wp2_with fail
        refine Calls.mono (sort_nil _) ?_
        rintro e w1 ⟨rfl, rfl⟩
        go_wp2_with fail
        go_ret
        rw [← unhide HSE, show ([] : List (List UInt8)).mergeSort (fun x y => decide (x ≤ y)) = [] by simp]
        exact ⟨_, rfl, World.ownsRow_nil _ _ _ _, unhide HK⟩
      · have hH : Holds encStr wr g 0 ss.toArray := holds_of_block hb (by simpa using h4)
        have hgl : g < wr.heap.size := (Array.getElem?_eq_some_iff.1 hb).1
        have hsort := Tryz.slices_Sort_string g 0 cap ss wr hH hgl (by have := unhide HSZ; omega)
        have HB := hide hb
        have HS := hide hsort
        clear hl0 hc0 c1 hb hH hsort h4
        go_wp2_with fail
        refine Calls.mono (unhide HS) ?_
        rintro e w' ⟨rfl, nn, os, rfl⟩
        go_wp2_with fail
        go_ret
        rw [← unhide HSE]
        refine ⟨_, rfl, ?_, (unhide HK).grown (grownBy_sorted _) (by intro k hk; injection hk with hk; subst hk; exact .inr hbase)⟩
        rw [List.length_mergeSort]
        exact ownsRow_sorted (by simp) hbase (unhide HB) h1 h2 h3
    · intro x c kl yd yp w2 cnt2 hkey hlk hv hat hrg2 hlt hg2 hs2 hen
      obtain ⟨x', ex, rfl⟩ := keyStr_inv hkey
      obtain rfl : x = x'.data.toList := by
        have : encStr x = Value.string ⟨⟨x⟩⟩ := rfl
        rw [this] at ex
        injection ex with ex
        rw [← ex]
      have hrow2 := (unhide HOW).kept hg2 (Or.inr (row_ne_iter (unhide HOW) (unhide HRG)).symm)
      have HRG2 := hide hrg2
      have HR2 := hide hrow2
      have HK2 := hide ((unhide HK).grown hg2 (by intro k hk; injection hk with hk; subst hk; exact .inr (Nat.le_refl _)))
      have HCS := hide ((unhide HC).step hlk hat)
      have HLT := hide hlt
      clear hrow2 hrg2 hg2 hs2 hlk hat hkey hv hlt ex
      go_wp2_with (at_builtin; refine wpList_append_own_at _ rfl _ _ 76 rfl w.heap.size 9 i0 (.string ⟨#[]⟩) 1 16 Tryz.underlying76 (unhide HI) (unhide HZ0) (unhide HZ1) (unhide HZ2) rfl (by decide) _ _ _ rfl ((unhide HR2).alloc _) ⟨w2.heap.size, 0, none⟩ 1 1 [encStr x'.data.toList] rfl rfl (cell_one_new _ _ _) (by simp [Value.oneCell', encStr]) (by have := unhide HSZ; unfold maxLen; omega) (by have := unhide HSZ; omega) (by have := (unhide HK2).size; simp; omega) ?_; intro v' w3 hown' hg3 hnil3 hat3; have HOW3 := hide hown'; have HG3 := hide hg3; clear hown' hg3 hnil3 hat3)
      have hrg3 := ranges_heap ((unhide HRG2).alloc _) ((unhide HG3).block m (by have := (unhide HRG2).owns.lt; simp; omega) (row_ne_low (unhide HR2) (unhide HO).lt)) ((unhide HG3).block w.heap.size (by have := (unhide HRG2).lt; simp; omega) (row_ne_iter (unhide HR2) (unhide HRG2)))
      have hk3 := ((unhide HK2).alloc (.cells #[encStr x'.data.toList] 9 (0, 0))).grown (unhide HG3) (by intro k hk; exact .inr ((unhide HR2).lt k hk).1)
      refine ⟨⟨_, cnt2, ss ++ [x'.data.toList], hide hrg3, by have := unhide HLT; simp; omega, hide (by simpa using unhide HOW3), HCS, hide hk3⟩, ?_⟩
      rw [hrg3.left_eq, (unhide HRG).left_eq]
      exact unhide HLT
end Go.Proofs.YtejchncdimcdbaaGreatDoor
namespace Go.Proofs.YtejchncdimcdbaaGreatDoor
open Go.RowKit Go.BigFrame Go.Maps Go.Sort
set_option linter.unusedVariables false
set_option linter.unusedSimpArgs false

theorem cutN_sub (A : List DF) : ∀ k, (cutN k A).Sublist A := by
  induction A with
  | nil => intro k; simp [cutN]
  | cons f r ih =>
    intro k
    cases hn : f.nd
    · cases k with
      | zero => rw [show cutN 0 (f :: r) = cutN 0 r by simp [cutN, hn]]; exact (ih 0).cons _
      | succ k => rw [show cutN (k + 1) (f :: r) = f :: cutN k r by simp [cutN, hn]]; exact (ih k).cons_cons _
    · rw [show cutN k (f :: r) = f :: cutN k r by cases k <;> simp [cutN, hn]]; exact (ih k).cons_cons _
theorem setF_len (k : KeepD) (sec : Nat) (f : DF) (hs : 1 ≤ sec) (hs2 : sec ≤ 4096) : (setF k sec f).bs.length ≤ f.bs.length + 4096 := by
  unfold setF
  split
  · simp only [List.length_append, List.length_take, List.length_replicate]
    have : tse (setN k f) sec < sec := Nat.mod_lt _ (by omega)
    omega
  · simp only [List.length_take]
    omega
theorem dist_sub {A C : List DF} (h : C.Sublist A) (hd : Dist A) : Dist C := hd.sublist h
theorem setA_nm (ks : List KeepD) (sec : Nat) (A : List DF) : (setA ks sec A).map DF.nm = A.map DF.nm := by
  unfold setA
  rw [List.map_map]
  apply List.map_congr_left
  intro a _
  exact setF_nm _ _ _

theorem restart_D (d nb bb : Nat) (B : List Nat) (σ : DSt) (n : Int) (kv : Value) (ks : List KeepD) (w : World) (h : DK w d B nb bb σ) (hn : nb ≤ 1000000000) (hb : bb ≤ 140737488350000) (hks : RdC 3 w kv (ks.map keC)) (hkd : ∀ x ∈ zblk kv (ks.map keC), x ∉ B) (hkn : ∀ k ∈ ks, k.nm.size ≤ 140737488355328) (hkl : ks.length ≤ 1000000000) :
    Calls Tryz.prog 36 #[.pointer (some ⟨d, 0, none⟩), .agg #[.int .i64 n, kv]] w fun e w' => ∃ B', e = .returned (.tuple #[]) ∧ DK w' d B' nb (bb + 4096) (stRestart σ n ks) ∧ Ev w w' B B' := by
  obtain ⟨sec, cr, op, off, ft, A⟩ := σ
  obtain ⟨⟨m, u, fv, fs, h1, rfl, hA⟩, h2, h3, h4, h5, h6, h7⟩ := h
  dsimp only at *
  subst hA
  refine Calls.mono (restart_any d sec m nb n kv ks w u fv cr op off ft fs h1 h2 hks hkd hkn hkl (by rw [List.length_map] at h4; omega) (fun f hf => Nat.le_trans (h5 (absF f) (List.mem_map.2 ⟨f, hf, rfl⟩)) hb) (fun f hf => (isNm_size (h7 (absF f) (List.mem_map.2 ⟨f, hf, rfl⟩))).2) h6.1 h6.2) ?_
  rintro e w' ⟨gs, rfl, hD, hG, hK, hN⟩
  refine ⟨_, rfl, ⟨⟨m, _, _, gs, hD, rfl, hG.symm⟩, ?_, ⟨by simp [stRestart], by simp [stRestart]⟩, ?_, ?_, h6, ?_⟩, hK, hN⟩
  · simp only [stRestart]
    rw [dist_iff, setA_nm]
    exact (dist_iff _).1 (dist_sub (cutN_sub _ _) h2)
  · simp only [stRestart, setA, List.length_map]
    exact Nat.le_trans (cutN_sub _ _).length_le h4
  · intro f hf
    simp only [stRestart, setA] at hf
    obtain ⟨a, ha, rfl⟩ := List.mem_map.1 hf
    have := h5 a ((cutN_sub _ _).subset ha)
    have := setF_len ((fstK ks a.nm.data.toList).getD zK) sec a h6.1 h6.2
    omega
  · intro f hf
    simp only [stRestart, setA] at hf
    obtain ⟨a, ha, rfl⟩ := List.mem_map.1 hf
    rw [setF_nm]
    exact h7 a ((cutN_sub _ _).subset ha)

def nmsOf (σ : DSt) : List (List UInt8) := if σ.off then [] else srtN σ.A

set_option maxRecDepth 100000 in
set_option maxHeartbeats 1000000 in
theorem namesOf_D (d nb bb : Nat) (B : List Nat) (σ : DSt) (w : World) (h : DK w d B nb bb σ) (hn : nb ≤ 1000000000) :
    Calls Tryz.prog 32 #[.pointer (some ⟨d, 0, none⟩)] w fun e w' => ∃ v, e = .returned v ∧ w'.ownsRow w.heap.size 9 1 v (nmsOf σ).length ((nmsOf σ).map encStr) ∧ Kept [] w w' := by
  obtain ⟨sec, cr, op, off, ft, A⟩ := σ
  obtain ⟨⟨m, u, fv, fs, h1, rfl, hA⟩, h2, h3, h4, h5, h6, h7⟩ := h
  dsimp only at *
  subst hA
  have HD := hide h1
  have HDI := hide h2
  clear h1 h2 h4 h5 h7
  cases off
  · show Calls Tryz.prog 32 #[.pointer (some ⟨d, 0, none⟩)] w fun e w' => ∃ v, e = .returned v ∧ w'.ownsRow w.heap.size 9 1 v (srtN (fs.map absF)).length ((srtN (fs.map absF)).map encStr) ∧ Kept [] w w'
    have HSO := hide (sorted_any d sec m nb w u fv cr op false ft fs (unhide HD) (unhide HDI) hn)
    generalize srtN (fs.map absF) = SS at HSO ⊢
    go_enter Tryz.func32, Tryz.ntmps32
    go_wp2_with fail
    refine Calls.mono (power_any d w sec m u fv cr op false (unhide HD).row) ?_
    rintro e w1 ⟨rfl, rfl⟩
    simp only [Bool.false_eq_true, if_false]
    go_wp2_with fail
    refine Calls.mono (unhide HSO) ?_
    rintro e w2 ⟨v, rfl, ho, hk⟩
    have H1 := hide ho
    have H2 := hide hk
    clear ho hk
    go_wp2_with fail
    go_ret
    exact ⟨v, rfl, unhide H1, unhide H2⟩
  · show Calls Tryz.prog 32 #[.pointer (some ⟨d, 0, none⟩)] w fun e w' => ∃ v, e = .returned v ∧ w'.ownsRow w.heap.size 9 1 v 0 [] ∧ Kept [] w w'
    go_enter Tryz.func32, Tryz.ntmps32
    go_wp2_with fail
    refine Calls.mono (power_any d w sec m u fv cr op true (unhide HD).row) ?_
    rintro e w1 ⟨rfl, rfl⟩
    simp only [if_true]
    go_wp2_with fail
    go_ret
    exact ⟨_, rfl, World.ownsRow_nil _ _ _ _, Kept.refl _ _⟩

theorem new_D (sec : Nat) (w : World) (h1 : 1 ≤ sec) (h2 : sec ≤ 4096) :
    Calls Tryz.prog 13 #[.int .i64 sec, .slice none 0 0] w fun e w' => ∃ d B, e = .returned (.tuple #[.pointer (some ⟨d, 0, none⟩), .int .i64 0]) ∧ DK w' d B 0 0 ⟨sec, 0, 0, false, fun _ => none, []⟩ ∧ Kept [] w w' ∧ ∀ x ∈ B, w.heap.size ≤ x := by
  refine Calls.mono (new_any sec w h1 h2) ?_
  rintro e w' ⟨d, m, rfl, hd, hm, hD, hK⟩
  refine ⟨d, _, rfl, ⟨⟨m, _, _, [], hD, rfl, rfl⟩, List.Pairwise.nil, ⟨by simp, by simp⟩, by simp, by simp, ⟨h1, h2⟩, by simp⟩, hK, ?_⟩
  intro x hx
  simp [dkB, blk, mblk] at hx
  rcases hx with rfl | rfl
  · exact hd
  · exact hm

set_option maxRecDepth 100000 in
set_option maxHeartbeats 1000000 in
theorem newM_D (sec : Nat) (w : World) (h1 : 1 ≤ sec) (h2 : sec ≤ 4096) :
    Calls Tryz.prog 10 #[.int .i64 sec] w fun e w' => ∃ d B, e = .returned (.tuple #[.pointer (some ⟨d, 0, none⟩), .int .i64 0]) ∧ DK w' d B 0 0 ⟨sec, 0, 0, false, fun _ => none, []⟩ ∧ Kept [] w w' ∧ ∀ x ∈ B, w.heap.size ≤ x := by
  have HN := hide (new_D sec w h1 h2)
  go_enter Tryz.func10, Tryz.ntmps10
  go_wp2_with fail
  refine Calls.mono (unhide HN) ?_
  rintro e w' ⟨d, B, rfl, hd, hk, hb⟩
  have H1 := hide hd
  have H2 := hide hk
  have H3 := hide hb
  clear hd hk hb
  go_wp2_with fail
  go_ret2
  exact ⟨d, B, rfl, unhide H1, unhide H2, unhide H3⟩
end Go.Proofs.YtejchncdimcdbaaGreatDoor
