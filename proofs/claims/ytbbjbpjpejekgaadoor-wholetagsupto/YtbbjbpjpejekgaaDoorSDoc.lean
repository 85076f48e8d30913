import Derived.Test.YtbbjbpjpejekgaaDoorSPad
namespace Go.Proofs.YtbbjbpjpejekgaaDoor
open Go.RowKit
set_option linter.unusedVariables false
set_option linter.unusedSimpArgs false

theorem pad_test (n k : Nat) (hk : k ≤ padZ n) : ((n % 64 + (k + 1) + 8) % 64 = 0) ↔ k = padZ n := by
  unfold padZ at hk ⊢; split at hk <;> rename_i h <;> simp only [h, if_true, if_false] <;> omega
theorem padZ_le (n : Nat) : padZ n ≤ 63 := by unfold padZ; split <;> omega

def sLen : Value → Nat
  | .slice _ n _ => n
  | _ => 0

set_option maxRecDepth 100000 in
set_option maxHeartbeats 1000000 in
theorem docPadding_any (n : Nat) (w : World) (hn : n < 18446744073709551616) :
    Calls Tryd.prog 88 #[.int .u64 n] w fun e w' => ∃ lv, e = .returned lv ∧ Rd w' lv (pad n) ∧ Kept [] w w' := by
  go_enter Tryd.func88, Tryd.ntmps88
  go_wp2
  have HL := hide (padZ_le n)
  have HO0 := hide (⟨rfl, Or.inr ⟨w.heap.size, 1, #[.int .u8 128], rfl, Nat.le_refl _, heap_alloc_new _ _, Nat.le_refl _, by unfold maxLen; omega, rfl, rfl⟩⟩ : (w.alloc (.cells #[.int .u8 128] 5)).ownsRow w.heap.size 5 1 (.slice (some ⟨w.heap.size, 0, none⟩) 1 1) 1 ([128].map u8))
  go_loopw [3] (fun t3 wr => ∃ (k : Nat) (ao : Option Addr) (cap : Nat), k ≤ padZ n ∧ t3 = .slice ao (k + 1) cap ∧ Hid (wr.ownsRow w.heap.size 5 1 (.slice ao (k + 1) cap) (k + 1) ((128 :: List.replicate k 0).map u8)) ∧ Hid (Kept [] w wr)) (fun t _ => 64 - sLen t)
  case atStart => exact ⟨0, _, 1, Nat.zero_le _, rfl, HO0, hide ((Kept.refl [] w).alloc _)⟩
  case round =>
    obtain ⟨k, ao, cap, hk, rfl, HO, HK⟩ := hrel
    have hk63 := Nat.le_trans hk (unhide HL)
    have ht := pad_test n k hk
    have hsz := (unhide HK).size
    by_cases hend : k = padZ n
    · have hc0 : (((n : Int) % 64 + ((k : Int) + 1) + 8) % 64 != 0) = false := by
        rw [bne_eq_false_iff_eq]; have := ht.2 hend; omega
      subst hend
      clear ht
      go_wp2
      have HV := hide (show 8 * n % 18446744073709551616 < 18446744073709551616 from Nat.mod_lt _ (by decide))
      have HP0 := hide (by simpa [pz] using unhide HO : wr.ownsRow w.heap.size 5 1 (.slice ao (padZ n + 1) cap) (padZ n + 1) ((pz n ++ (be8 (8 * n % 18446744073709551616)).take 0).map Go.Proofs.YtbbjbpjpejekgaaDoor.u8))
      go_loopw [3, 4] (fun t3 t4 wq => ∃ (m : Nat) (ao : Option Addr) (cap : Nat), m ≤ 8 ∧ t3 = .slice ao (padZ n + 1 + m) cap ∧ t4 = .int .i64 (7 - (m : Int)) ∧ Hid (wq.ownsRow w.heap.size 5 1 (.slice ao (padZ n + 1 + m) cap) (padZ n + 1 + m) ((pz n ++ (be8 (8 * n % 18446744073709551616)).take m).map Go.Proofs.YtbbjbpjpejekgaaDoor.u8)) ∧ Hid (Kept [] w wq)) (fun _ t _ => (intOf t + 1).toNat)
      case atStart => exact ⟨0, ao, cap, by omega, rfl, rfl, HP0, HK⟩
      case round =>
        obtain ⟨m, ao2, cap2, hm, rfl, rfl, HO2, HK2⟩ := hrel
        have hsz2 := (unhide HK2).size
        by_cases hlt : m < 8
        · obtain ⟨i, hi⟩ : ∃ i : Nat, i + m = 7 := ⟨7 - m, by omega⟩
          have ei : (7 : Int) - (m : Int) = (i : Int) := by omega
          rw [ei]
          have hi0 : (0 : Int) ≤ i := by omega
          have hi8 : (i : Int) < 8 := by omega
          have hb8 := be8_get i (by omega) (8 * n % 18446744073709551616)
          have hpl : (pz n ++ (be8 (8 * n % 18446744073709551616)).take m).length = padZ n + 1 + m := by rw [List.length_append, pz_len, List.length_take]; simp [be8]; omega
          have HSn := hide (by
            rw [List.append_assoc]; congr 1
            rw [List.take_succ_eq_append_getElem (show m < (be8 (8 * n % 18446744073709551616)).length by simp [be8]; omega)]
            congr 2
            rw [← hb8, show 7 - i = m by omega, List.getD_eq_getElem?_getD, List.getElem?_eq_getElem (show m < (be8 (8 * n % 18446744073709551616)).length by simp [be8]; omega)]; rfl : pz n ++ (be8 (8 * n % 18446744073709551616)).take (m + 1) = (pz n ++ (be8 (8 * n % 18446744073709551616)).take m) ++ [8 * n % 18446744073709551616 / 2 ^ (8 * i) % 256])
          have HO' := hide (by rw [hpl]; exact unhide HO2 : wr.ownsRow w.heap.size 5 1 (.slice ao2 (padZ n + 1 + m) cap2) (pz n ++ (be8 (8 * n % 18446744073709551616)).take m).length ((pz n ++ (be8 (8 * n % 18446744073709551616)).take m).map Go.Proofs.YtbbjbpjpejekgaaDoor.u8))
          have Hpl := hide hpl
          have HVi := hide (by rw [IntKind.wrap_u64]; simp : IntKind.u64.wrap (8 * (n : Int)) / 2 ^ (8 * i) % 256 = ((8 * n % 18446744073709551616 / 2 ^ (8 * i) % 256 : Nat) : Int))
          have HVj := hide (by simp : (8 : Int) * (n : Int) % 18446744073709551616 / 2 ^ (8 * i) % 256 = ((8 * n % 18446744073709551616 / 2 ^ (8 * i) % 256 : Nat) : Int))
          obtain ⟨z, hz⟩ : ∃ z, 8 * n % 18446744073709551616 / 2 ^ (8 * i) % 256 = z := ⟨_, rfl⟩
          have hzb : z < 256 := by rw [← hz]; exact Nat.mod_lt _ (by decide)
          rw [hz] at HSn HVi HVj
          clear hb8 hpl hz
          have hrs : Rd (wr.alloc (.cells #[.int .u8 (z : Int)] 5)) (.slice (some ⟨wr.heap.size, 0, none⟩) 1 1) [z] := rd_lit (heap_alloc_new wr _) rfl (by simp; omega) 1 rfl (by omega)
          have HRs := hide hrs
          clear hrs
          go_wp2_with (at_builtin; first | rw [unhide HVi] | rw [unhide HVj] | skip; go_must (refine wpList_appendAll rfl (.tmp 22) (.tmp 29) rfl rfl _ w.heap.size (.slice ao2 (padZ n + 1 + m) cap2) (pz n ++ (be8 (8 * n % 18446744073709551616)).take m) [z] _ 1 1 (by exact (unhide HO').alloc _) (by exact unhide HRs) (by rw [unhide Hpl]; simp; omega) (by simp; omega) rfl rfl ?_; intro ao3 cap3 w3 HO3 HG3 HA3; rw [unhide Hpl] at HO3 HA3 ⊢; simp only [List.length_cons, List.length_nil, Nat.zero_add] at HO3 HG3 HA3))
          have HK3 := hide (((unhide HK2).alloc (.cells #[.int .u8 (z : Int)] 5)).grown (unhide HG3) (by intro j hj; right; exact ((unhide HO2).lt j hj).1))
          have HO4 := hide (by
            have h5 := unhide HO3
            have e : ((pz n ++ (be8 (8 * n % 18446744073709551616)).take m) ++ [z]).length = padZ n + 1 + (m + 1) := by rw [List.length_append, unhide Hpl]; rfl
            rw [e] at h5
            rw [unhide HSn]; exact h5 : w3.ownsRow w.heap.size 5 1 (.slice ao3 (padZ n + 1 + (m + 1)) cap3) (padZ n + 1 + (m + 1)) ((pz n ++ (be8 (8 * n % 18446744073709551616)).take (m + 1)).map Go.Proofs.YtbbjbpjpejekgaaDoor.u8))
          have em : (i : Int) - 1 = 7 - ((m + 1 : Nat) : Int) := by omega
          have Hem := hide em
          clear em
          go_wp2
          go_roundw
          case rel => exact ⟨m + 1, ao3, cap3, by omega, by simp [Nat.add_assoc], by rw [unhide Hem], HO4, HK3⟩
          case measure => simp [intOf]
        · have hm8 : m = 8 := by omega
          subst hm8
          go_wp2
          go_ret
          refine ⟨_, rfl, ?_, unhide HK2⟩
          have hpp : pz n ++ (be8 (8 * n % 18446744073709551616)).take 8 = pad n := rfl
          have h5 := unhide HO2
          rw [hpp] at h5
          have el : padZ n + 1 + 8 = (pad n).length := by rw [pad_len]
          have h6 : wr.ownsRow w.heap.size 5 1 (.slice ao2 (padZ n + 1 + 8) cap2) (pad n).length ((pad n).map Go.Proofs.YtbbjbpjpejekgaaDoor.u8) := by rw [← el]; exact h5
          exact rd_owns h6 (pad_byte n) (by rw [pad_len]; have := unhide HL; omega)
    · have hc0 : (((n : Int) % 64 + ((k : Int) + 1) + 8) % 64 != 0) = true := by
        rw [bne_iff_ne]; have := fun h => hend (ht.1 h); omega
      have HO' := hide (by simpa using unhide HO : wr.ownsRow w.heap.size 5 1 (.slice ao (k + 1) cap) (128 :: List.replicate k 0).length ((128 :: List.replicate k 0).map Go.Proofs.YtbbjbpjpejekgaaDoor.u8))
      have hrs : Rd (wr.alloc (.cells #[.int .u8 0] 5)) (.slice (some ⟨wr.heap.size, 0, none⟩) 1 1) [0] := rd_lit (heap_alloc_new wr _) rfl (by simp) 1 rfl (by omega)
      have HRs := hide hrs
      clear hrs ht
      go_wp2_with (at_builtin; go_must (refine wpList_appendAll rfl (.tmp 15) (.tmp 16) rfl rfl _ w.heap.size (.slice ao (k + 1) cap) (128 :: List.replicate k 0) [0] _ 1 1 (by exact (unhide HO').alloc _) (by exact unhide HRs) (by simp; omega) (by simp; omega) rfl rfl ?_; intro ao1 cap1 w1 HO1 HG1 HA1; simp only [List.length_cons, List.length_replicate, List.length_nil, Nat.zero_add] at HO1 HG1 HA1))
      have HK1 := hide (((unhide HK).alloc (.cells #[.int .u8 0] 5)).grown (unhide HG1) (by intro j hj; right; exact ((unhide HO).lt j hj).1))
      have HO2 := hide (by
        have h5 := unhide HO1
        have e : (128 :: List.replicate k 0) ++ [0] = 128 :: List.replicate (k + 1) 0 := by rw [List.replicate_succ']; rfl
        rw [e] at h5
        simpa using h5 : w1.ownsRow w.heap.size 5 1 (.slice ao1 (k + 1 + 1) cap1) (k + 1 + 1) ((128 :: List.replicate (k + 1) 0).map Go.Proofs.YtbbjbpjpejekgaaDoor.u8))
      go_wp2
      go_roundw
      case rel => exact ⟨k + 1, ao1, cap1, by omega, by simp, HO2, HK1⟩
      case measure => simp [sLen]; have := unhide HL; omega
end Go.Proofs.YtbbjbpjpejekgaaDoor
