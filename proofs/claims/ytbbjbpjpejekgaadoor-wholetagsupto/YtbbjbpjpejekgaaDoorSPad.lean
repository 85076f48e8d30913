import Derived.Test.YtbbjbpjpejekgaaDoorRowz
namespace Go.Proofs.YtbbjbpjpejekgaaDoor
open Go.RowKit
set_option linter.unusedVariables false
set_option linter.unusedSimpArgs false

def tl (v i : Nat) : List Nat := List.replicate (8 - i) 0 ++ (be8 v).drop (8 - i)
theorem tl_set : ∀ (i : Nat), i < 8 → ∀ v, (tl v i).set (7 - i) ((be8 v).getD (7 - i) 0) = tl v (i + 1) := by
  intro i hi v
  match i, hi with
  | 0, _ => rfl
  | 1, _ => rfl
  | 2, _ => rfl
  | 3, _ => rfl
  | 4, _ => rfl
  | 5, _ => rfl
  | 6, _ => rfl
  | 7, _ => rfl
theorem be8_get : ∀ (i : Nat), i < 8 → ∀ v, (be8 v).getD (7 - i) 0 = v / 2 ^ (8 * i) % 256 := by
  intro i hi v
  match i, hi with
  | 0, _ => simp [be8]
  | 1, _ => simp [be8]
  | 2, _ => simp [be8]
  | 3, _ => simp [be8]
  | 4, _ => simp [be8]
  | 5, _ => simp [be8]
  | 6, _ => simp [be8]
  | 7, _ => simp [be8]
theorem tl_len (v i : Nat) (h : i ≤ 8) : (tl v i).length = 8 := by simp only [tl, be8, List.length_append, List.length_replicate, List.length_drop, List.length_cons, List.length_nil]; omega
def pz (n : Nat) : List Nat := 128 :: List.replicate (padZ n) 0
theorem pz_len (n : Nat) : (pz n).length = padZ n + 1 := by simp [pz]
theorem pz_start (n v : Nat) : ((zeros (padZ n + 9)).set 0 (.int .u8 128)).toArray = brow (pz n ++ tl v 0) := by
  have h1 : zeros (padZ n + 9) = (.int .u8 0) :: (List.replicate (padZ n + 8) 0).map u8 := by simp [zeros, List.replicate_succ]
  have h2 : tl v 0 = List.replicate 8 0 := rfl
  rw [h1, h2, pz, List.set_cons_zero, brow, List.cons_append, List.replicate_append_replicate, List.map_cons]; rfl
theorem zeros_first (L : Nat) (h : 0 < L) : (zeros L).toArray[0]? = some (.int .u8 0) := by
  rw [List.getElem?_toArray]; unfold zeros; rw [List.getElem?_replicate, if_pos h]
theorem zeros_u8 (k : Nat) : zeros k = (List.replicate k 0).map u8 := by simp [zeros]

set_option maxRecDepth 100000 in
set_option maxHeartbeats 1000000 in
theorem padding_any (n : Nat) (w : World) (hn : n < 18446744073709551616) :
    Calls Tryd.prog 82 #[.int .u64 n] w fun e w' => e = .returned (.slice (some ⟨w.heap.size, 0, none⟩) (pad n).length (pad n).length) ∧ w'.heap[w.heap.size]? = some (.cells (brow (pad n)) 5 (0, 0)) ∧ Kept [] w w' := by
  obtain ⟨L, hL⟩ : ∃ L, padZ n + 9 = L := ⟨_, rfl⟩
  have hmk := run_make_row' (P := Tryd.prog) 24 5 (.int .u8 0) 1 Tryd.underlying24 Tryd.info5 rfl .i64 .i64 L (by unfold padZ at hL; split at hL <;> omega) (by unfold padZ at hL; split at hL <;> omega)
  simp only [madeZeros] at hmk
  have HP := hide (pad_len n)
  have Hv := hide (show 8 * n % 18446744073709551616 < 18446744073709551616 from Nat.mod_lt _ (by decide))
  have HL := hide hL
  have hL9 : 9 ≤ L := by omega
  have hL72 : L ≤ 128 := by unfold padZ at hL; split at hL <;> omega
  have h3 : (0 : Int) < (L : Int) := by omega
  have hc0 : (w.alloc (.cells (zeros L).toArray 5)).cell? ⟨w.heap.size, 0, none⟩ = some (.int .u8 0) := by
    rw [cell_of_row _ _ _ _ _ _ (heap_alloc_new _ _)]; exact zeros_first L (by omega)
  have hf0 : (w.alloc (.cells (zeros L).toArray 5)).frozen? ⟨w.heap.size, 0, none⟩ = false := frozen_of_row _ _ _ _ _ (heap_alloc_new _ _)
  by_cases h : n % 64 < 56
  · have h2 : (64 : Int) - (n : Int) % 64 = (L : Int) := by unfold padZ at hL; rw [if_pos h] at hL; omega
    have h1 : ¬ (L : Int) < 9 := by omega
    clear h hL
    go_enter Tryd.func82, Tryd.ntmps82
    go_wp2
    obtain ⟨W, hW⟩ : ∃ W, w.alloc (.cells ((zeros L).set 0 (.int .u8 128)).toArray 5) = W := ⟨_, rfl⟩
    have HR0 := hide (by
      rw [← hW, heap_alloc_new]
      have e1 : L = padZ n + 9 := (unhide HL).symm
      rw [e1, pz_start] : W.heap[w.heap.size]? = some (.cells (brow (pz n ++ tl (8 * n % 18446744073709551616) 0)) 5 (0, 0)))
    have HK0 := hide (by rw [← hW]; exact (Kept.refl [] w).alloc _ : Kept [] w W)
    rw [hW]
    clear hW
    go_loopw [18] (fun t18 wr => ∃ k : Nat, k ≤ 8 ∧ t18 = .int .i64 k ∧ Hid (wr.heap[w.heap.size]? = some (.cells (brow (pz n ++ tl (8 * n % 18446744073709551616) k)) 5 (0, 0))) ∧ Hid (Kept [] w wr)) (fun t _ => 8 - (intOf t).toNat)
    case atStart => exact ⟨0, by omega, rfl, HR0, HK0⟩
    case round =>
      obtain ⟨k, hk, rfl, HR, HK⟩ := hrel
      by_cases hlt : k < 8
      · have hlt' : (k : Int) < 8 := by omega
        have hlen : (pz n ++ tl (8 * n % 18446744073709551616) k).length = L := by rw [List.length_append, pz_len, tl_len _ _ hk]; have := unhide HL; omega
        have cg := brow_cell (unhide HR) (L - 1 - k) (by omega)
        have fg : wr.frozen? ⟨w.heap.size, L - 1 - k, none⟩ = false := frozen_of_row _ _ _ _ _ (unhide HR)
        have hi0 : (0 : Int) ≤ (L : Int) - 1 - k := by omega
        have hi1 : (L : Int) - 1 - k < L := by omega
        have HN := hide (by
          have h1 := heap_setCell_same wr w.heap.size (L - 1 - k) _ 5 (Go.Proofs.YtbbjbpjpejekgaaDoor.u8 ((be8 (8 * n % 18446744073709551616)).getD (7 - k) 0)) (unhide HR)
          rw [brow_set, List.set_append_right _ _ (by rw [pz_len]; have := unhide HL; omega), pz_len, show L - 1 - k - (padZ n + 1) = 7 - k by have := unhide HL; omega, tl_set k hlt] at h1
          exact h1)
        have HKN := hide ((unhide HK).setCell (p := ⟨w.heap.size, L - 1 - k, none⟩) (by simp) (Go.Proofs.YtbbjbpjpejekgaaDoor.u8 ((be8 (8 * n % 18446744073709551616)).getD (7 - k) 0)))
        rw [be8_get k hlt] at HN HKN
        generalize (pz n ++ tl (8 * n % 18446744073709551616) k).getD (L - 1 - k) 0 = y at cg
        clear hlen
        have HV := hide (by simp : (8 : Int) * (n : Int) % 18446744073709551616 / 2 ^ (8 * k) % 256 = ((8 * n % 18446744073709551616 / 2 ^ (8 * k) % 256 : Nat) : Int))
        go_wp2
        go_roundw
        case rel => exact ⟨k + 1, by omega, by go_num, hide (by rw [IntKind.wrap_u64, unhide HV]; exact unhide HN), hide (by rw [IntKind.wrap_u64, unhide HV]; exact unhide HKN)⟩
        case measure => simp [intOf]; omega
      · have hlt' : ¬ (k : Int) < 8 := by omega
        have hk8 : k = 8 := by omega
        subst hk8
        go_wp2
        go_ret
        have hpp : pz n ++ tl (8 * n % 18446744073709551616) 8 = pad n := rfl
        refine ⟨?_, ?_, unhide HK⟩
        · rw [unhide HP, unhide HL]; rfl
        · rw [← hpp]; exact unhide HR
  · obtain ⟨m, hm⟩ : ∃ m : Nat, m = 64 - n % 64 := ⟨_, rfl⟩
    have h2 : (64 : Int) - (n : Int) % 64 = (m : Int) := by omega
    have h1 : (m : Int) < 9 := by omega
    have h4 : (m : Int) + 64 = (L : Int) := by unfold padZ at hL; rw [if_neg h] at hL; omega
    clear h hL hm
    go_enter Tryd.func82, Tryd.ntmps82
    go_wp2
    obtain ⟨W, hW⟩ : ∃ W, w.alloc (.cells ((zeros L).set 0 (.int .u8 128)).toArray 5) = W := ⟨_, rfl⟩
    have HR0 := hide (by
      rw [← hW, heap_alloc_new]
      have e1 : L = padZ n + 9 := (unhide HL).symm
      rw [e1, pz_start] : W.heap[w.heap.size]? = some (.cells (brow (pz n ++ tl (8 * n % 18446744073709551616) 0)) 5 (0, 0)))
    have HK0 := hide (by rw [← hW]; exact (Kept.refl [] w).alloc _ : Kept [] w W)
    rw [hW]
    clear hW
    go_loopw [18] (fun t18 wr => ∃ k : Nat, k ≤ 8 ∧ t18 = .int .i64 k ∧ Hid (wr.heap[w.heap.size]? = some (.cells (brow (pz n ++ tl (8 * n % 18446744073709551616) k)) 5 (0, 0))) ∧ Hid (Kept [] w wr)) (fun t _ => 8 - (intOf t).toNat)
    case atStart => exact ⟨0, by omega, rfl, HR0, HK0⟩
    case round =>
      obtain ⟨k, hk, rfl, HR, HK⟩ := hrel
      by_cases hlt : k < 8
      · have hlt' : (k : Int) < 8 := by omega
        have hlen : (pz n ++ tl (8 * n % 18446744073709551616) k).length = L := by rw [List.length_append, pz_len, tl_len _ _ hk]; have := unhide HL; omega
        have cg := brow_cell (unhide HR) (L - 1 - k) (by omega)
        have fg : wr.frozen? ⟨w.heap.size, L - 1 - k, none⟩ = false := frozen_of_row _ _ _ _ _ (unhide HR)
        have hi0 : (0 : Int) ≤ (L : Int) - 1 - k := by omega
        have hi1 : (L : Int) - 1 - k < L := by omega
        have HN := hide (by
          have h1 := heap_setCell_same wr w.heap.size (L - 1 - k) _ 5 (Go.Proofs.YtbbjbpjpejekgaaDoor.u8 ((be8 (8 * n % 18446744073709551616)).getD (7 - k) 0)) (unhide HR)
          rw [brow_set, List.set_append_right _ _ (by rw [pz_len]; have := unhide HL; omega), pz_len, show L - 1 - k - (padZ n + 1) = 7 - k by have := unhide HL; omega, tl_set k hlt] at h1
          exact h1)
        have HKN := hide ((unhide HK).setCell (p := ⟨w.heap.size, L - 1 - k, none⟩) (by simp) (Go.Proofs.YtbbjbpjpejekgaaDoor.u8 ((be8 (8 * n % 18446744073709551616)).getD (7 - k) 0)))
        rw [be8_get k hlt] at HN HKN
        generalize (pz n ++ tl (8 * n % 18446744073709551616) k).getD (L - 1 - k) 0 = y at cg
        clear hlen
        have HV := hide (by simp : (8 : Int) * (n : Int) % 18446744073709551616 / 2 ^ (8 * k) % 256 = ((8 * n % 18446744073709551616 / 2 ^ (8 * k) % 256 : Nat) : Int))
        go_wp2
        go_roundw
        case rel => exact ⟨k + 1, by omega, by go_num, hide (by rw [IntKind.wrap_u64, unhide HV]; exact unhide HN), hide (by rw [IntKind.wrap_u64, unhide HV]; exact unhide HKN)⟩
        case measure => simp [intOf]; omega
      · have hlt' : ¬ (k : Int) < 8 := by omega
        have hk8 : k = 8 := by omega
        subst hk8
        go_wp2
        go_ret
        have hpp : pz n ++ tl (8 * n % 18446744073709551616) 8 = pad n := rfl
        refine ⟨?_, ?_, unhide HK⟩
        · rw [unhide HP, unhide HL]; rfl
        · rw [← hpp]; exact unhide HR
end Go.Proofs.YtbbjbpjpejekgaaDoor
