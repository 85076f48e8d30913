import Derived.Test.YtckkalmhekfnhabGreatDoorSNam
import Derived.Lib.ConvBytes
import Derived.Laws.AppendOwn
namespace Go.Proofs.YtckkalmhekfnhabGreatDoor
open Go.RowKit Go.BigFrame
set_option linter.unusedVariables false
set_option linter.unusedSimpArgs false

/-- The string that bytes make. -/
def strB (p : List Nat) : ByteArray := ⟨(p.map UInt8.ofNat).toArray⟩
theorem sbw_kept (w : World) (e : TypeId) (s : ByteArray) : Kept [] w (Lib.bytesWorld w e s) := ⟨rfl, rfl, rfl, by rw [Lib.bytesWorld_size]; omega, fun k hk _ => Lib.bytesWorld_at_old w e s k hk⟩
theorem strB_size (bs : List Nat) : (strB bs).size = bs.length := by simp [strB, ByteArray.size]
theorem sbw_rd (w : World) (bs : List Nat) (hb : ∀ x ∈ bs, x < 256) (hl : bs.length ≤ 1000000) : Rd (Lib.bytesWorld w 5 (strB bs)) (.slice (some ⟨w.heap.size, 0, none⟩) (strB bs).size (grownCap w (strB bs).size 0 5)) bs := by
  have h1 := grownCap_ge w (strB bs).size 0 5
  have h2 := grownCap_le_maxLen w (strB bs).size 0 5 (by rw [strB_size]; unfold maxLen; omega)
  rw [strB_size] at h1 h2 ⊢
  unfold maxLen at h2
  refine ⟨_, _, _, rfl, rfl, h1, ⟨by omega, by omega⟩, fun h => by simp at h, hb, fun hp => ⟨w.heap.size, 0, rfl, fun i hi => ?_⟩⟩
  rw [Nat.zero_add, Lib.bytesWorld_cell w 5 (strB bs) i (by rw [strB_size]; exact hi)]
  have hx := hb (bs[i]) (List.getElem_mem hi)
  simp [strB, List.getD_eq_getElem?_getD, hi, u8]
  omega
theorem sconv_str (w : World) (bs : List Nat) (n : Nat) (hn : bs.length = n) (hb : ∀ x ∈ bs, x < 256) (hl : n ≤ 1000000) : ∃ W c, (convert 9 29 (.string (strB bs))).run Tryz.prog w = .ok (.slice (some ⟨w.heap.size, 0, none⟩) n c) W ∧ Rd W (.slice (some ⟨w.heap.size, 0, none⟩) n c) bs ∧ Kept [] w W ∧ W.heap.size = w.heap.size + 1 := by
  have hu5 : Tryz.prog.underlying 5 = some (.int .u8) := by kernel_rfl
  have hu9 : Tryz.prog.underlying 9 = some .string := by kernel_rfl
  subst hn
  exact ⟨_, _, by rw [Lib.run_convert_string_bytes w 9 29 5 (strB bs) hu9 Tryz.underlying29 hu5, strB_size], by have := sbw_rd w bs hb hl; rwa [strB_size] at this, sbw_kept w 5 _, Lib.bytesWorld_size w 5 _⟩
/-- The number that digits make. -/
def dval (l : List Nat) : Nat := l.foldl (fun a d => a * 10 + (d - 48)) 0
theorem dval_snoc (l : List Nat) (d : Nat) : dval (l ++ [d]) = dval l * 10 + (d - 48) := by simp [dval]
theorem dval_app (l m : List Nat) : dval l ≤ dval (l ++ m) := by
  unfold dval
  rw [List.foldl_append]
  generalize List.foldl (fun a d => a * 10 + (d - 48)) 0 l = a
  induction m generalizing a with
  | nil => exact Nat.le_refl _
  | cons x r ih => simp only [List.foldl_cons]; exact Nat.le_trans (by omega) (ih _)
theorem dval_take (l : List Nat) (k : Nat) : dval (l.take k) ≤ dval l := by
  have := dval_app (l.take k) (l.drop k)
  rwa [List.take_append_drop] at this

set_option maxRecDepth 100000 in
set_option maxHeartbeats 4000000 in
theorem iparse_any (bs : List Nat) (w : World) (h0 : 0 < bs.length) (hl : bs.length ≤ 1000) (hd : ∀ x ∈ bs, 48 ≤ x ∧ x ≤ 57) (hv : dval bs < 18446744073709551616) :
    Calls Tryz.prog 57 #[.string (strB bs), .int .i64 10, .int .i64 64] w fun e w' => e = .returned (.tuple #[.int .u64 (dval bs), .nilIface]) ∧ Kept [] w w' := by
  obtain ⟨W, c, hrun, hrd, kW, hW⟩ := sconv_str w bs bs.length rfl (fun x hx => by have := hd x hx; omega) (by omega)
  obtain ⟨ao, n9, c9, he, _, hcap, ⟨hc1, hc2⟩, _, _, hcl⟩ := id hrd
  cases he
  obtain ⟨b9, o9, e9, hcell⟩ := hcl h0
  cases e9
  have HC := hide hcell
  have HD := hide hd
  have HV := hide (fun k => dval_take bs k)
  have HK := hide kW
  have hmax : IntKind.u64.wrap (IntKind.u64.wrap 18446744073709551616 - 1) = 18446744073709551615 := by decide
  have hne : (strB bs).toList.isEmpty = false := by
    rw [ba_toListS]
    cases bs with
    | nil => simp at h0
    | cons x r => simp [strB]
  have hdl : dval bs ≤ 18446744073709551615 := by omega
  clear hrd hcl hcell hd kW hW
  go_enter Tryz.func57, Tryz.ntmps57
  go_wp2_with fail
  go_loopw [12, 13, 101] (fun t12 t13 t101 wr => ∃ k : Nat, k ≤ bs.length ∧ t12 = .bool false ∧ t101 = .int .i64 k ∧ t13 = .int .u64 (dval (bs.take k)) ∧ wr = W) (fun _ _ t _ => bs.length - (intOf t).toNat)
  case atStart => exact ⟨0, by omega, rfl, rfl, rfl, rfl⟩
  case round =>
    obtain ⟨k, hk, rfl, rfl, rfl, rfl⟩ := hrel
    by_cases hkl : k < bs.length
    · have hkl' : (k : Int) < bs.length := by omega
      have ck := unhide HC k hkl
      have hdk := unhide HD bs[k] (List.getElem_mem hkl)
      rw [List.getD_eq_getElem?_getD, List.getElem?_eq_getElem hkl, Option.getD_some] at ck
      have hsn : dval (bs.take (k + 1)) = dval (bs.take k) * 10 + (bs[k] - 48) := by rw [List.take_succ_eq_append_getElem hkl, dval_snoc]
      have hle := unhide HV (k + 1)
      have HSN := hide hsn
      generalize bs[k] = d at ck hdk hsn HSN
      obtain ⟨m, hm⟩ : ∃ m, dval (bs.take (k + 1)) = m := ⟨_, rfl⟩
      rw [hm] at hsn hle HSN
      have HMM := hide hm
      clear hm
      generalize dval (bs.take k) = n at hsn HSN
      obtain ⟨e, rfl⟩ : ∃ e, d = e + 48 := ⟨d - 48, by omega⟩
      have he : e + 48 - 48 = e := by omega
      rw [he] at hsn HSN
      clear he
      have ck2 : wr.cell? ⟨w.heap.size, k, none⟩ = some (.int .u8 ((e : Int) + 48)) := by rw [Nat.zero_add] at ck; rw [ck]; simp [Go.Proofs.YtckkalmhekfnhabGreatDoor.u8]
      have b0 : (0 : Int) ≤ e := by omega
      have b2 : (e : Int) ≤ 9 := by omega
      have b3 : (0 : Int) ≤ n := by omega
      have b4 : ¬ (1844674407370955162 : Int) ≤ n := by omega
      have b5 : (n : Int) * 10 + e ≤ 18446744073709551615 := by omega
      have b8 : (n : Int) * 10 ≤ 18446744073709551615 := by omega
      have HM := hide (by rw [unhide HSN]; simp : (m : Int) = (n : Int) * 10 + e)
      clear hsn hdk ck hle HSN
      generalize (n : Int) = z at *
      generalize (e : Int) = y at *
      go_wp2
      go_roundw
      case rel => exact ⟨k + 1, by omega, rfl, by go_num, by rw [unhide HMM, unhide HM], trivial⟩
      case measure => simp [intOf]; omega
    · have hkl' : ¬ (k : Int) < bs.length := by omega
      obtain rfl : k = bs.length := by omega
      go_wp2
      go_ret2
      exact ⟨by simp, unhide HK⟩

set_option maxRecDepth 100000 in
set_option maxHeartbeats 1000000 in
theorem parse_any (bs : List Nat) (w : World) (h0 : 0 < bs.length) (hl : bs.length ≤ 1000) (hd : ∀ x ∈ bs, 48 ≤ x ∧ x ≤ 57) (hv : dval bs < 18446744073709551616) :
    Calls Tryz.prog 30 #[.string (strB bs), .int .i64 10, .int .i64 64] w fun e w' => e = .returned (.tuple #[.int .u64 (dval bs), .nilIface]) ∧ Kept [] w w' := by
  go_enter Tryz.func30, Tryz.ntmps30
  go_wp2_with fail
  refine Calls.mono (iparse_any bs _ h0 hl hd hv) ?_
  rintro e w1 ⟨rfl, k1⟩
  have HK1 := hide k1
  clear k1
  go_wp2
  go_ret2
  exact ⟨rfl, unhide HK1⟩

set_option maxRecDepth 100000 in
set_option maxHeartbeats 1000000 in
theorem itrim7_any (w : World) : Calls Tryz.prog 59 #[.string seg7, .string ⟨#[115, 101, 103, 45]⟩] w fun e w' => e = .returned (.string dig7) ∧ w' = w := by
  go_enter Tryz.func59, Tryz.ntmps59
  go_wp2_with fail
  refine Calls.mono (hasPre_any _ _ _ (by decide) (by decide)) ?_
  rintro e w1 ⟨rfl, rfl⟩
  rw [show ((seg7.extract 0 (⟨#[115, 101, 103, 45]⟩ : ByteArray).size).toList == (⟨#[115, 101, 103, 45]⟩ : ByteArray).toList) = true by rw [ba_toListS, ba_toListS, ext_take]; decide]
  unfold seg7
  go_wp2
  go_ret
  exact ⟨by rfl, rfl⟩

set_option maxRecDepth 100000 in
set_option maxHeartbeats 1000000 in
theorem trim7_any (w : World) : Calls Tryz.prog 31 #[.string seg7, .string ⟨#[115, 101, 103, 45]⟩] w fun e w' => e = .returned (.string dig7) ∧ w' = w := by
  go_enter Tryz.func31, Tryz.ntmps31
  go_wp2_with fail
  refine Calls.mono (itrim7_any _) ?_
  rintro e w1 ⟨rfl, rfl⟩
  go_wp2
  go_ret
  exact ⟨rfl, rfl⟩
theorem dig7_str : dig7 = strB [48, 48, 48, 48, 48, 48, 48, 48, 48, 48, 48, 48, 48, 48, 48, 48, 48, 48, 48, 55] := by rfl

set_option maxRecDepth 100000 in
set_option maxHeartbeats 1000000 in
theorem number7_any (w : World) : Calls Tryz.prog 8 #[.string seg7] w fun e w' => e = .returned (.tuple #[.int .u64 7, .int .i64 0]) ∧ Kept [] w w' := by
  have heq : (seg7.toList == seg7.toList) = true := by simp
  go_enter Tryz.func8, Tryz.ntmps8
  go_wp2_with fail
  refine Calls.mono (trim7_any _) ?_
  rintro e w1 ⟨rfl, rfl⟩
  rw [dig7_str]
  go_wp2_with fail
  refine Calls.mono (parse_any _ _ (by decide) (by decide) (by decide) (by decide)) ?_
  rintro e w2 ⟨rfl, k2⟩
  have HK2 := hide k2
  clear k2
  rw [show dval [48, 48, 48, 48, 48, 48, 48, 48, 48, 48, 48, 48, 48, 48, 48, 48, 48, 48, 48, 55] = 7 by decide]
  go_wp2_with fail
  refine Calls.mono (name7_any _) ?_
  rintro e w3 ⟨rfl, rfl⟩
  go_wp2
  go_ret2
  exact ⟨rfl, unhide HK2⟩
end Go.Proofs.YtckkalmhekfnhabGreatDoor
