import Derived.Test.YtagpmgbmfoojiabDoorCTw
namespace Go.Proofs.YtagpmgbmfoojiabDoor
open Go.RowKit
set_option linter.unusedVariables false
set_option linter.unusedSimpArgs false

theorem i64_and1 (m : Nat) (h : m ≤ 9223372036854775807) : bits .and .i64 (m : Int) 1 = ((m % 2 : Nat) : Int) := by
  have h1 : (BitVec.ofInt 64 (m : Int)).toNat = m := by rw [BitVec.ofInt_natCast, BitVec.toNat_ofNat]; exact Nat.mod_eq_of_lt (by omega)
  have h2 : (BitVec.ofInt 64 (1 : Int)).toNat = 1 := by decide
  show IntKind.i64.wrap ((BitVec.ofInt 64 (m : Int) &&& BitVec.ofInt 64 (1 : Int)).toNat : Int) = _
  rw [BitVec.toNat_and, h1, h2, Nat.and_one_is_mod, IntKind.wrap_i64]
  omega

set_option maxRecDepth 100000 in
set_option maxHeartbeats 1000000 in
theorem cjoin_any (a b : Nat) (n : Int) (w : World) (ha : a < 4294967296) (hb : b < 4294967296) (hn : -9223372036854775808 ≤ n ∧ n ≤ 9223372036854775807) (hT : Tab w) :
    Calls Tryd.prog 7 #[.int .u32 a, .int .u32 b, .int .i64 n] w fun x w' => x = .returned (.int .u32 (joi a b n.toNat)) ∧ Kept [] w w' := by
  have HT := hide hT
  clear hT
  go_enter Tryd.func7, Tryd.ntmps7
  go_wp2_with fail
  refine (byteMap_any _).mono ?_
  rintro x w1 ⟨ms, rfl, hL, hK⟩
  have HL := hide hL
  have HK := hide hK
  clear hL hK
  go_wp2_with (refine wpList_store_row rfl 38 (.tmp 7) (.tmp 8) rfl w1.heap.size (row ms) rfl rfl _ _ (heap_alloc_new _ _) (by rw [row_size, (unhide HL).1]; exact Tryd.sizeLinear) (by rw [row_size, (unhide HL).1]; rfl) (row_one _) ?_)
  rw [zeros32]
  simp only [Act.put]
  go_loopw [0, 2, 7] (fun t0 t2 t7 wr => ∃ (x : Nat) (q : Int) (g e : Nat) (ns : List Nat), x < 4294967296 ∧ -9223372036854775808 ≤ q ∧ q ≤ 9223372036854775807 ∧ t0 = .int .u32 x ∧ t2 = .int .i64 q ∧ t7 = .pointer (some ⟨g, 0, none⟩) ∧ Hid (w.heap.size ≤ g) ∧ Hid (Lin e ns) ∧ Hid (it zz (e * q.toNat) x = it zz n.toNat a) ∧ Hid (wr.heap[g]? = some (.cells (row ns) 38 (0, 0))) ∧ Hid (Kept [] w wr)) (fun _ t _ _ => (intOf t).toNat)
  case atStart => exact ⟨a, n, w1.heap.size, 1, ms, ha, hn.1, hn.2, rfl, rfl, rfl, hide (unhide HK).size, HL, hide (by rw [Nat.one_mul]), hide (setRow_heap _ _ _ _ _ _ (heap_alloc_new _ _)), hide (((unhide HK).alloc _).setRow (by right; exact (unhide HK).size) _)⟩
  case round =>
    obtain ⟨x, q, g, e, ns, hx, hq1, hq2, rfl, rfl, rfl, HG, HN, HE, HR, HKr⟩ := hrel
    by_cases h0 : 0 < q
    · obtain ⟨m, rfl⟩ : ∃ m : Nat, q = m := ⟨q.toNat, by omega⟩
      have hand := i64_and1 m (by omega)
      have hm2 := Nat.mod_two_eq_zero_or_one m
      have HTr := hide ((unhide HT).kept (unhide HKr))
      have hix : it zz e x < 4294967296 := it_lt (fun a h => zz_lt h) e hx
      have HEo := hide (show m % 2 = 1 → it zz ((e + e) * (m / 2)) (it zz e x) = it zz n.toNat a by
        intro h1
        rw [← unhide HE, ← it_add, Int.toNat_natCast]
        congr 1
        have : m = 2 * (m / 2) + 1 := by omega
        generalize m / 2 = d at this
        subst this
        rw [Nat.mul_add, Nat.mul_one, ← Nat.mul_assoc, Nat.mul_two])
      have HEe := hide (show m % 2 = 0 → it zz ((e + e) * (m / 2)) x = it zz n.toNat a by
        intro h1
        rw [← unhide HE, Int.toNat_natCast]
        congr 1
        have : m = 2 * (m / 2) := by omega
        generalize m / 2 = d at this
        subst this
        rw [← Nat.mul_assoc, Nat.mul_two])
      clear HE
      rcases hm2 with hm | hm
      · rw [hm] at hand
        have HEn := hide (unhide HEe hm)
        clear HEe HEo hm
        go_wp2_with (refine wpList_load_row rfl 38 (.tmp 7) rfl g rfl _ (row ns) (0, 0) _ (unhide HR) Tryd.underlying38 rfl (by rw [row_size, (unhide HN).1]; exact Tryd.sizeLinear) ?_)
        refine (twice_any e ns wr (unhide HN) (unhide HTr)).mono ?_
        rintro x2 w2 ⟨ns2, rfl, hL2, k2⟩
        have HL2 := hide hL2
        have HR2 := hide (k2.heap (unhide HR) (by simp))
        have HK2 := hide ((unhide HKr).trans k2 (by simp))
        clear k2 hL2
        have HR3 := hide (setRow_heap w2 g _ (row ns2) _ _ (unhide HR2))
        have HK3 := hide ((unhide HK2).setRow (g := g) (Or.inr (unhide HG)) (row ns2))
        go_wp2_with (first
          | (refine wpList_store_row rfl 38 (.tmp 7) (.tmp 20) rfl g (row ns2) rfl rfl _ _ (unhide HR2) (by rw [row_size, (unhide HL2).1]; exact Tryd.sizeLinear) (by rw [row_size, (unhide HN).1, row_size, (unhide HL2).1]) (row_one _) ?_)
          | (refine wpList_load_row rfl 38 (.tmp 7) rfl g rfl _ (row ns2) (0, 0) _ (unhide HR3) Tryd.underlying38 rfl (by rw [row_size, (unhide HL2).1]; exact Tryd.sizeLinear) ?_)
          | (refine wpList_store_row rfl 38 (.tmp 7) (.tmp 21) rfl w2.heap.size (row ns2) rfl rfl _ _ (by rw [← size_setRow w2 g (row ns2)]; exact heap_alloc_new _ _) (by rw [row_size, (unhide HL2).1]; exact Tryd.sizeLinear) (by rw [row_size, (unhide HL2).1]; rfl) (row_one _) ?_))
        go_roundw
        case rel => exact ⟨x, (m : Int) / 2, w2.heap.size, e + e, ns2, hx, by omega, by omega, rfl, by go_num, rfl, hide (unhide HK2).size, HL2, hide (by rw [show ((m : Int) / 2).toNat = m / 2 by omega]; exact unhide HEn), hide (setRow_heap _ _ _ _ _ _ (by rw [← size_setRow w2 g (row ns2)]; exact heap_alloc_new _ _)), hide (((unhide HK3).alloc _).setRow (Or.inr (unhide HK2).size) _)⟩
        case measure => simp [intOf]; omega
      · rw [hm] at hand
        have HEn := hide (unhide HEo hm)
        clear HEe HEo hm
        go_wp2_with (refine wpList_load_row rfl 38 (.tmp 7) rfl g rfl _ (row ns) (0, 0) _ (unhide HR) Tryd.underlying38 rfl (by rw [row_size, (unhide HN).1]; exact Tryd.sizeLinear) ?_)
        refine (of_any e ns x wr hx (unhide HN) (unhide HTr)).mono ?_
        rintro x1 w1' ⟨rfl, k1⟩
        have HR1 := hide (k1.heap (unhide HR) (by simp))
        have HK1 := hide ((unhide HKr).trans k1 (by simp))
        have HT1 := hide ((unhide HTr).kept k1)
        clear k1
        generalize it zz e x = y at HEn hix
        go_wp2_with (refine wpList_load_row rfl 38 (.tmp 7) rfl g rfl _ (row ns) (0, 0) _ (unhide HR1) Tryd.underlying38 rfl (by rw [row_size, (unhide HN).1]; exact Tryd.sizeLinear) ?_)
        refine (twice_any e ns w1' (unhide HN) (unhide HT1)).mono ?_
        rintro x2 w2 ⟨ns2, rfl, hL2, k2⟩
        have HL2 := hide hL2
        have HR2 := hide (k2.heap (unhide HR1) (by simp))
        have HK2 := hide ((unhide HK1).trans k2 (by simp))
        clear k2 hL2
        have HR3 := hide (setRow_heap w2 g _ (row ns2) _ _ (unhide HR2))
        have HK3 := hide ((unhide HK2).setRow (g := g) (Or.inr (unhide HG)) (row ns2))
        go_wp2_with (first
          | (refine wpList_store_row rfl 38 (.tmp 7) (.tmp 20) rfl g (row ns2) rfl rfl _ _ (unhide HR2) (by rw [row_size, (unhide HL2).1]; exact Tryd.sizeLinear) (by rw [row_size, (unhide HN).1, row_size, (unhide HL2).1]) (row_one _) ?_)
          | (refine wpList_load_row rfl 38 (.tmp 7) rfl g rfl _ (row ns2) (0, 0) _ (unhide HR3) Tryd.underlying38 rfl (by rw [row_size, (unhide HL2).1]; exact Tryd.sizeLinear) ?_)
          | (refine wpList_store_row rfl 38 (.tmp 7) (.tmp 21) rfl w2.heap.size (row ns2) rfl rfl _ _ (by rw [← size_setRow w2 g (row ns2)]; exact heap_alloc_new _ _) (by rw [row_size, (unhide HL2).1]; exact Tryd.sizeLinear) (by rw [row_size, (unhide HL2).1]; rfl) (row_one _) ?_))
        go_roundw
        case rel => exact ⟨y, (m : Int) / 2, w2.heap.size, e + e, ns2, hix, by omega, by omega, rfl, by go_num, rfl, hide (unhide HK2).size, HL2, hide (by rw [show ((m : Int) / 2).toNat = m / 2 by omega]; exact unhide HEn), hide (setRow_heap _ _ _ _ _ _ (by rw [← size_setRow w2 g (row ns2)]; exact heap_alloc_new _ _)), hide (((unhide HK3).alloc _).setRow (Or.inr (unhide HK2).size) _)⟩
        case measure => simp [intOf]; omega
    · have hxb : bits .xor .u32 (x : Int) (b : Int) = ((x ^^^ b : Nat) : Int) := u32_xor_nat x b hx hb
      go_wp2
      go_ret
      refine ⟨?_, unhide HKr⟩
      have h1 := unhide HE
      rw [show q.toNat = 0 by omega, Nat.mul_zero] at h1
      unfold joi; rw [← h1]; rfl
end Go.Proofs.YtagpmgbmfoojiabDoor
