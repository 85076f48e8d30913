import Derived.Test.YtbbjbpjpejekgaaAGrow
import Derived.BigFrame
namespace Go.Proofs.Ytbbjbpjpejekgaa
open Go.RowKit Go.BigFrame
set_option linter.unusedVariables false
set_option linter.unusedSimpArgs false

set_option maxRecDepth 100000 in
set_option maxHeartbeats 2000000 in
theorem grow1_any (a : Option Addr) (c n r i : Nat) (w : World) (h : w.ownsRow 0 5 1 (.slice a n c) (mk3 r i n).length ((mk3 r i n).map u8)) (hn : n ≤ 4194304) (hi : i ≤ 4194304) (hr : r < 2) :
    Calls Try.prog 47 #[.slice a n c, .int .i64 r, .int .i64 i, .int .i64 1] w fun e w' => ∃ a' c', e = .returned (.slice a' (n + 24) c') ∧ Grw w w' a n c r i a' 24 c' := by
  have HG := hide (Grw.start h)
  clear h
  go_enter Try.func47, Try.ntmps47
  go_wp2_with fail
  go_loopw [9, 10] (fun t5 t6 wr => ∃ (k c' : Nat) (a' : Option Addr), k ≤ 24 ∧ t5 = .slice a' (n + k) c' ∧ t6 = .int .i64 k ∧ Hid (Grw w wr a n c r i a' k c')) (fun _ t _ => 24 - (intOf t).toNat)
  case atStart => exact ⟨0, c, a, by omega, rfl, rfl, HG⟩
  case round =>
    obtain ⟨k, c', a', hk, rfl, rfl, HG⟩ := hrel
    by_cases hlt : k < 24
    · have hlt' : (k : Int) < 24 := by omega
      have HM := hide (fun W => (by rw [← Int.natCast_add]; exact mark_any r i (n + k) W hi (by omega) hr : Calls Try.prog 46 #[.int .i64 r, .int .i64 i, .int .i64 ((n : Int) + (k : Int))] W fun e w' => e = .returned (.int .u8 (markN r i (n + k))) ∧ w' = W))
      have HS := hide (mk3_succ r i (n + k))
      have hzb := markN_lt r i (n + k)
      go_wp2_with fail
      refine (unhide HM _).mono ?_
      rintro e w2 ⟨rfl, rfl⟩
      generalize markN r i (n + k) = z at HS hzb
      have HRs := hide (rd_lit (heap_alloc_new w2 (.cells #[.int .u8 (z : Int)] 5)) rfl (by simp; omega) 1 rfl (by omega) : Rd (w2.alloc (.cells #[.int .u8 (z : Int)] 5)) (.slice (some ⟨w2.heap.size, 0, none⟩) 1 1) [z])
      have HGa := hide ((unhide HG).pass ((Kept.refl [] w2).alloc (.cells #[.int .u8 (z : Int)] 5)))
      have HL := hide (mk3_len r i (n + k))
      go_wp2_with (at_builtin; refine wpList_appendTwo rfl _ _ rfl rfl _ 0 (.slice a' (n + k) c') (mk3 r i (n + k)) [z] _ 1 1 (unhide HGa).new (unhide HRs) (by rw [unhide HL]; simp; omega) (by omega) rfl rfl ?_; intro a3 c3 w3 HO3 HO3' HG3 HW3)
      have HG4 := hide (by
        have o := unhide HO3
        have wt := unhide HW3
        have o' := unhide HO3'
        rw [← unhide HS] at o
        rw [unhide HL] at o wt
        exact (unhide HGa).push (m2 := k + 1) o o' (unhide HG3) wt : Grw w w3 a n c r i a3 (k + 1) c3)
      rw [unhide HL]
      clear HO3 HO3' HG3 HW3 HG HGa
      go_wp2
      go_roundw
      case rel => exact ⟨k + 1, c3, a3, by omega, by simp [Nat.add_assoc], by go_num, HG4⟩
      case measure => simp [intOf]; omega
    · have hlt' : ¬ (k : Int) < 24 := by omega
      obtain rfl : k = 24 := by omega
      go_wp2
      go_ret
      exact ⟨_, _, rfl, unhide HG⟩

set_option maxRecDepth 100000 in
set_option maxHeartbeats 2000000 in
theorem growN_any (a : Option Addr) (c n r i step : Nat) (w : World) (h : w.ownsRow 0 5 1 (.slice a n c) (mk3 r i n).length ((mk3 r i n).map u8)) (hs : 2 ≤ step) (hs2 : step ≤ 90) (hn : n ≤ 4194304) (hi : i ≤ 4194304) (hr : r < 2) :
    Calls Try.prog 47 #[.slice a n c, .int .i64 r, .int .i64 i, .int .i64 step] w fun e w' => ∃ a' c', e = .returned (.slice a' (n + step) c') ∧ Grw w w' a n c r i a' step c' := by
  have HG := hide (Grw.start h)
  have HZ := hide (World.ownsRow_nil w w.heap.size 5 1)
  have hs1 : ¬ (step : Int) = 1 := by omega
  have hs1' : ((step : Int) == 1) = false := by simp; omega
  clear h
  go_enter Try.func47, Try.ntmps47
  go_wp2_with fail
  go_loopw [11, 12] (fun t5 t6 wr => ∃ (k c' : Nat) (a' : Option Addr), k ≤ step ∧ t5 = .slice a' k c' ∧ t6 = .int .i64 k ∧ Hid (wr.ownsRow w.heap.size 5 1 (.slice a' k c') (mkF r i n k).length ((mkF r i n k).map u8)) ∧ Hid (Kept [] w wr)) (fun _ t _ => step - (intOf t).toNat)
  case atStart => exact ⟨0, 0, none, by omega, rfl, rfl, HZ, hide (Kept.refl _ _)⟩
  case round =>
    obtain ⟨k, c', a', hk, rfl, rfl, HO, HK⟩ := hrel
    by_cases hlt : k < step
    · have hlt' : (k : Int) < step := by omega
      have HM := hide (fun W => (by rw [← Int.natCast_add]; exact mark_any r i (n + k) W hi (by omega) hr : Calls Try.prog 46 #[.int .i64 r, .int .i64 i, .int .i64 ((n : Int) + (k : Int))] W fun e w' => e = .returned (.int .u8 (markN r i (n + k))) ∧ w' = W))
      have HS := hide (mkF_succ r i n k)
      have hzb := markN_lt r i (n + k)
      have hsz := (unhide HK).size
      go_wp2_with fail
      refine (unhide HM _).mono ?_
      rintro e w2 ⟨rfl, rfl⟩
      generalize markN r i (n + k) = z at HS hzb
      have HRs := hide (rd_lit (heap_alloc_new w2 (.cells #[.int .u8 (z : Int)] 5)) rfl (by simp; omega) 1 rfl (by omega) : Rd (w2.alloc (.cells #[.int .u8 (z : Int)] 5)) (.slice (some ⟨w2.heap.size, 0, none⟩) 1 1) [z])
      have HOa := hide (((Kept.refl [] w2).alloc (.cells #[.int .u8 (z : Int)] 5)).owns (unhide HO) (by simp))
      have HKa := hide ((unhide HK).alloc (.cells #[.int .u8 (z : Int)] 5))
      have HL := hide (mkF_len r i n k)
      go_wp2_with (at_builtin; refine wpList_appendAll rfl _ _ rfl rfl _ w.heap.size (.slice a' k c') (mkF r i n k) [z] _ 1 1 (unhide HOa) (unhide HRs) (by rw [unhide HL]; simp; omega) (by simp; omega) rfl rfl ?_; intro a3 c3 w3 HO3 HG3 HA3)
      have HK4 := hide ((unhide HKa).grown (unhide HG3) (by intro j hj; right; exact ((unhide HOa).lt j hj).1))
      have HO4 := hide (by
        have o := unhide HO3
        rw [← unhide HS] at o
        rw [unhide HL] at o
        exact o : w3.ownsRow w.heap.size 5 1 (.slice a3 (k + 1) c3) (mkF r i n (k + 1)).length ((mkF r i n (k + 1)).map u8))
      rw [unhide HL]
      clear HO3 HG3 HA3 HO HOa HK HKa
      go_wp2
      go_roundw
      case rel => exact ⟨k + 1, c3, a3, by omega, by simp, by go_num, HO4, HK4⟩
      case measure => simp [intOf]; omega
    · have hlt' : ¬ (k : Int) < step := by omega
      obtain rfl : k = step := by omega
      have HGp := hide ((unhide HG).pass (unhide HK))
      have HRm := hide (rd_owns (unhide HO) (mkF_byte r i n k) (by rw [mkF_len]; omega))
      have HL := hide (mk3_len r i n)
      have HLF := hide (mkF_len r i n k)
      have HAD := hide (mk3_add r i n k)
      go_wp2_with (at_builtin; refine wpList_appendTwo rfl _ _ rfl rfl _ 0 (.slice a n c) (mk3 r i n) (mkF r i n k) _ _ _ (unhide HGp).old (unhide HRm) (by rw [unhide HL, unhide HLF]; omega) (by omega) rfl rfl ?_; intro a3 c3 w3 HO3 HO3' HG3 HW3)
      have HG4 := hide (by
        have o := unhide HO3
        have wt := unhide HW3
        rw [← unhide HAD] at o
        rw [unhide HL, unhide HLF] at o wt
        exact Grw.push (m := 0) (m2 := k) (unhide HGp) o (unhide HO3') (unhide HG3) wt : Grw w w3 a n c r i a3 k c3)
      rw [unhide HL, unhide HLF]
      clear HO3 HO3' HG3 HW3
      go_wp2
      go_ret
      exact ⟨_, _, rfl, unhide HG4⟩
end Go.Proofs.Ytbbjbpjpejekgaa
