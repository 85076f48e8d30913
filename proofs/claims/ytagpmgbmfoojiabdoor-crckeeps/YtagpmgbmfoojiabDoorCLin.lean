import Derived.Test.YtagpmgbmfoojiabDoorCZ
namespace Go.Proofs.YtagpmgbmfoojiabDoor
open Go.RowKit
set_option linter.unusedVariables false
set_option linter.unusedSimpArgs false

theorem Kept.setRow {L : List Nat} {a w : World} (h : Kept L a w) {g : Nat} (hg : g ∈ L ∨ a.heap.size ≤ g) (cs : Array Value) : Kept L a (w.setRow g cs) :=
  h.trans (M := [g]) ⟨rfl, rfl, rfl, by simp [World.setRow], fun k _ hn => setRow_other w g k _ (by simpa using hn)⟩ (by simpa using hg)
/-- A row of words. -/
def row (ms : List Nat) : Array Value := (ms.map u32).toArray
theorem row_size (ms : List Nat) : (row ms).size = ms.length := by simp [row]
theorem row_set (ms : List Nat) (k v : Nat) : (row ms).setIfInBounds k (u32 v) = row (ms.set k v) := by
  unfold row; rw [List.map_set]; simp
theorem row_get (ms : List Nat) (k : Nat) (h : k < ms.length) : (row ms)[k]? = some (u32 (ms.getD k 0)) := by
  simp [row, List.getD_eq_getElem?_getD, List.getElem?_eq_getElem h]
theorem row_one (ms : List Nat) : (row ms).all (·.oneCell') = true := by
  rw [Array.all_eq_true_iff_forall_mem]
  intro v hv
  simp [row] at hv
  obtain ⟨x, _, rfl⟩ := hv
  rfl
theorem getD_set_same (ms : List Nat) (k v : Nat) (h : k < ms.length) : (ms.set k v).getD k 0 = v := by simp [List.getD_eq_getElem?_getD, h]
theorem getD_set_other (ms : List Nat) (k j v : Nat) (h : j ≠ k) : (ms.set k v).getD j 0 = ms.getD j 0 := by
  simp [List.getD_eq_getElem?_getD, List.getElem?_set, Ne.symm h]

/-- The table of the map that is Z e times. -/
def Lin (e : Nat) (ms : List Nat) : Prop := ms.length = 32 ∧ ∀ i, i < 32 → ms.getD i 0 = it zz e (2 ^ i)

theorem Tryd.sizeLinear : (Tryd.prog.info? 38).map (·.size) = some 32 := by kernel_rfl
def zrow : Array Value := row (List.replicate 32 0)
theorem zrow_size : zrow.size = 32 := by simp [zrow, row]
theorem zeros32 : (#[.int .u32 0, .int .u32 0, .int .u32 0, .int .u32 0, .int .u32 0, .int .u32 0, .int .u32 0, .int .u32 0, .int .u32 0, .int .u32 0, .int .u32 0, .int .u32 0, .int .u32 0, .int .u32 0, .int .u32 0, .int .u32 0,
  .int .u32 0, .int .u32 0, .int .u32 0, .int .u32 0, .int .u32 0, .int .u32 0, .int .u32 0, .int .u32 0, .int .u32 0, .int .u32 0, .int .u32 0, .int .u32 0, .int .u32 0, .int .u32 0, .int .u32 0, .int .u32 0] : Array Value) = zrow := rfl
theorem pow_lt32 {k : Nat} (h : k < 32) : 2 ^ k < 4294967296 := Nat.lt_of_lt_of_le (Nat.pow_lt_pow_right (by omega) h) (by decide)

set_option maxRecDepth 100000 in
set_option maxHeartbeats 1000000 in
theorem byteMap_any (w : World) :
    Calls Tryd.prog 18 #[] w fun e w' => ∃ ms, e = .returned (.agg (row ms)) ∧ Lin 1 ms ∧ Kept [] w w' := by
  go_enter Tryd.func18, Tryd.ntmps18
  go_wp2
  rw [zeros32]
  go_loopw [3] (fun t3 wr => ∃ (k : Nat) (ms : List Nat), k ≤ 32 ∧ t3 = .int .i64 k ∧ Hid (ms.length = 32 ∧ ∀ i, i < k → ms.getD i 0 = zz (2 ^ i)) ∧ Hid (wr.heap[w.heap.size + 1]? = some (.cells (row ms) 38 (0, 0))) ∧ Hid (wr.heap[w.heap.size]? = some (.cells zrow 38 (0, 0))) ∧ Hid (Kept [] w wr)) (fun t _ => 32 - (intOf t).toNat)
  case atStart => exact ⟨0, List.replicate 32 0, by omega, rfl, hide ⟨by simp, by intro i hi; omega⟩, hide (heap_alloc2_new _ _ _), hide (heap_alloc2_old _ _ _), hide (((Kept.refl [] w).alloc _).alloc _)⟩
  case round =>
    obtain ⟨k, ms, hk, rfl, HM, HR, HZ, HK⟩ := hrel
    by_cases hlt : k < 32
    · have hlt' : (k : Int) < 32 := by omega
      have fg : wr.frozen? ⟨w.heap.size + 1, k, none⟩ = false := frozen_of_row _ _ _ _ _ (unhide HR)
      have cg : wr.cell? ⟨w.heap.size + 1, k, none⟩ = some (u32 (ms.getD k 0)) := by
        rw [cell_of_row _ _ _ _ _ _ (unhide HR), row_get _ _ (by rw [(unhide HM).1]; exact hlt)]
      have hpw : (2 : Int) ^ k % 4294967296 = ((2 ^ k : Nat) : Int) := by
        have h1 := pow_lt32 hlt
        have h2 : (2 : Int) ^ k = ((2 ^ k : Nat) : Int) := by simp
        obtain ⟨q, hq⟩ : ∃ q, 2 ^ k = q := ⟨_, rfl⟩
        rw [hq] at h1 h2 ⊢
        rw [h2]; omega
      have HN := hide (by
        have h1 := heap_setCell_same wr (w.heap.size + 1) k _ 38 (u32 (zz (2 ^ k))) (unhide HR)
        rw [row_set] at h1; exact h1 : (wr.setCell ⟨w.heap.size + 1, k, none⟩ (u32 (zz (2 ^ k)))).heap[w.heap.size + 1]? = some (.cells (row (ms.set k (zz (2 ^ k)))) 38 (0, 0)))
      have HZN := hide ((heap_setCell_other wr ⟨w.heap.size + 1, k, none⟩ w.heap.size (u32 (zz (2 ^ k))) (by simp)).trans (unhide HZ))
      have HKN := hide ((unhide HK).setCell (p := ⟨w.heap.size + 1, k, none⟩) (by simp) (u32 (zz (2 ^ k))))
      have HMN := hide (⟨by simpa using (unhide HM).1, fun i hi => by
        by_cases hik : i = k
        · subst hik; exact getD_set_same _ _ _ (by rw [(unhide HM).1]; exact hlt)
        · rw [getD_set_other _ _ _ _ hik]; exact (unhide HM).2 i (by omega)⟩ : (ms.set k (zz (2 ^ k))).length = 32 ∧ ∀ i, i < k + 1 → (ms.set k (zz (2 ^ k))).getD i 0 = zz (2 ^ i))
      go_wp2_with fail
      refine (nextByte_any _ _ (pow_lt32 hlt)).mono ?_
      rintro e w1 ⟨rfl, rfl⟩
      go_wp2
      go_roundw
      case rel => exact ⟨k + 1, _, by omega, by go_num, HMN, HN, HZN, HKN⟩
      case measure => simp [intOf]; omega
    · have hlt' : ¬ (k : Int) < 32 := by omega
      have hk8 : k = 32 := by omega
      subst hk8
      go_wp2_with (first
        | (refine wpList_load_row rfl 38 (.tmp 1) rfl (w.heap.size + 1) rfl _ (row ms) (0, 0) _ (unhide HR) Tryd.underlying38 rfl (by rw [row_size, (unhide HM).1]; exact Tryd.sizeLinear) ?_)
        | (refine wpList_store_row rfl 38 (.tmp 0) (.tmp 12) rfl w.heap.size (row ms) rfl rfl _ zrow (unhide HZ) (by rw [row_size, (unhide HM).1]; exact Tryd.sizeLinear) (by rw [zrow_size, row_size, (unhide HM).1]) (row_one _) ?_))
      refine bodyPost_ret (v := .agg (row ms)) ?_ rfl ⟨ms, rfl, ⟨(unhide HM).1, fun i hi => (unhide HM).2 i hi⟩, (unhide HK).setRow (by simp) _⟩
      exact results_cell_row rfl _ _ w.heap.size _ (row ms) (0, 0) _ rfl (setRow_heap _ _ _ _ _ _ (unhide HZ)) Tryd.underlying38 rfl (by rw [row_size, (unhide HM).1]; exact Tryd.sizeLinear)
end Go.Proofs.YtagpmgbmfoojiabDoor
