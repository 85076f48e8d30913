import Derived.Test.YtbbjbpjpejekgaaDoorRTurn
import Derived.Test.YtbbjbpjpejekgaaDoorQTail
namespace Go.Proofs.YtbbjbpjpejekgaaDoor
open Go.RowKit Go.BigFrame
set_option linter.unusedVariables false
set_option linter.unusedSimpArgs false

theorem Calls.qd {P : Program} {f : FuncId} {args : Array Value} {w : World} {p n : Nat} {v : Value}
    (h : Calls P f args (w.drewN (p + n)) fun e w' => e = .returned v ∧ ∃ m, w' = (w.drewN (p + n)).drewN m) : Calls P f args (w.drewN (p + n)) fun e w'' => e = .returned v ∧ ∃ m, w'' = w.drewN (p + m) :=
  h.mono fun _ _ ⟨he, m, hm⟩ => ⟨he, n + m, by rw [hm, World.drewN_drewN, Nat.add_assoc]⟩

set_option maxRecDepth 100000 in
set_option maxHeartbeats 1000000 in
theorem spread_any (v : Value) (b : List Nat) (w : World) (h : Rd w v b) (hl : b.length = 64) :
    Calls Tryd.prog 91 #[v] w fun e w' => ∃ ws, e = .returned (.agg (row ws)) ∧ ws.length = 64 ∧ (∀ i, i < 64 → ws.getD i 0 = wd b i) ∧ Kept [] w w' := by
  have H := hide h
  have HB := hide h.byte
  clear h
  go_enter Tryd.func91, Tryd.ntmps91
  go_wp2
  rw [zw64]
  go_loopw [4] (fun t4 wr => ∃ (k : Nat) (ws : List Nat), k ≤ 64 ∧ t4 = .int .i64 k ∧ Hid (ws.length = 64 ∧ ∀ i, i < k → ws.getD i 0 = wd b i) ∧ Hid (wr.heap[w.heap.size + 1]? = some (.cells (row ws) 124 (0, 0))) ∧ Hid (wr.heap[w.heap.size]? = some (.cells (zw 64) 124 (0, 0))) ∧ Hid (Kept [] w wr)) (fun t _ => 64 - (intOf t).toNat)
  case atStart => exact ⟨0, List.replicate 64 0, by omega, rfl, hide ⟨by simp, by intro i hi; omega⟩, hide (heap_alloc2_new _ _ _), hide (heap_alloc2_old _ _ _), hide (((Kept.refl [] w).alloc _).alloc _)⟩
  case round =>
    obtain ⟨k, ws, hk, rfl, HM, HR, HZ, HK⟩ := hrel
    by_cases hlt : k < 64
    · have hlt' : (k : Int) < 64 := by omega
      have HMN := hide (⟨by simpa using (unhide HM).1, fun i hi => by
        by_cases hik : i = k
        · subst hik; exact getD_set_same _ _ _ (by rw [(unhide HM).1]; omega)
        · rw [getD_set_other _ _ _ _ hik]; exact (unhide HM).2 i (by omega)⟩ : (ws.set k (wd b k)).length = 64 ∧ ∀ i, i < k + 1 → (ws.set k (wd b k)).getD i 0 = wd b i)
      have HN := hide (by
        have h1 := heap_setCell_same wr (w.heap.size + 1) k _ 124 (wv (wd b k)) (unhide HR)
        rw [row_set] at h1; exact h1 : (wr.setCell ⟨w.heap.size + 1, k, none⟩ (wv (wd b k))).heap[w.heap.size + 1]? = some (.cells (row (ws.set k (wd b k))) 124 (0, 0)))
      have HZN := hide ((heap_setCell_other wr ⟨w.heap.size + 1, k, none⟩ w.heap.size (wv (wd b k)) (by simp)).trans (unhide HZ))
      have fg : wr.frozen? ⟨w.heap.size + 1, k, none⟩ = false := frozen_of_row _ _ _ _ _ (unhide HR)
      have cg := row_cell (unhide HR) k (by rw [(unhide HM).1]; omega)
      by_cases hs : k < 16
      · have hs' : (k : Int) < 16 := by omega
        have HW := hide (by rw [wd_small b k hs]; rfl : wd b k = b.getD (4 * k) 0 * 16777216 + b.getD (4 * k + 1) 0 * 65536 + b.getD (4 * k + 2) 0 * 256 + b.getD (4 * k + 3) 0)
        go_wp2_with fail
        refine (big_any v b (4 * k) _ _ ((unhide H).old (unhide HK) (by simp)) (by omega) (by omega)).mono ?_
        rintro e1 w1 ⟨rfl, n1, rfl⟩
        rw [← unhide HW]
        have HKN := hide (((unhide HK).drewN n1).setCell (p := ⟨w.heap.size + 1, k, none⟩) (by simp) (wv (wd b k)))
        go_wp2
        go_roundw
        case rel => exact ⟨k + 1, _, by omega, by go_num, HMN, HN, HZN, HKN⟩
        case measure => simp [intOf]; omega
      · have hs' : ¬ (k : Int) < 16 := by omega
        have hge : (16 : Int) ≤ k := by omega
        have hvl := (unhide HM).1
        have c15 := row_cell (unhide HR) (k - 15) (by omega)
        have c2 := row_cell (unhide HR) (k - 2) (by omega)
        have c16 := row_cell (unhide HR) (k - 16) (by omega)
        have c7 := row_cell (unhide HR) (k - 7) (by omega)
        rw [(unhide HM).2 (k - 15) (by omega)] at c15
        rw [(unhide HM).2 (k - 2) (by omega)] at c2
        rw [(unhide HM).2 (k - 16) (by omega)] at c16
        rw [(unhide HM).2 (k - 7) (by omega)] at c7
        have x1 := wd_lt b (unhide HB) (k - 15)
        have x2 := wd_lt b (unhide HB) (k - 2)
        have x3 := wd_lt b (unhide HB) (k - 16)
        have x4 := wd_lt b (unhide HB) (k - 7)
        have HW := hide (wd_big b k (by omega))
        generalize wd b (k - 15) = x at c15 x1 HW
        generalize wd b (k - 2) = y at c2 x2 HW
        generalize wd b (k - 16) = p at c16 x3 HW
        generalize wd b (k - 7) = q at c7 x4 HW
        have s0l := sg0_lt x1
        have s1l := sg1_lt x2
        have a1 : bits .xor .u32 (rotr 7 x : Int) (rotr 18 x : Int) = ((rotr 7 x ^^^ rotr 18 x : Nat) : Int) := u32_xor_nat _ _ (rotr_lt (by omega) x1) (rotr_lt (by omega) x1)
        have a2 : bits .xor .u32 ((rotr 7 x ^^^ rotr 18 x : Nat) : Int) ((x : Int) / 8) = (sg0 x : Nat) := by
          rw [show ((x : Int) / 8) = ((x / 8 : Nat) : Int) by omega]; exact u32_xor_nat _ _ (xlt (rotr_lt (by omega) x1) (rotr_lt (by omega) x1)) (by omega)
        have a3 : bits .xor .u32 (rotr 17 y : Int) (rotr 19 y : Int) = ((rotr 17 y ^^^ rotr 19 y : Nat) : Int) := u32_xor_nat _ _ (rotr_lt (by omega) x2) (rotr_lt (by omega) x2)
        have a4 : bits .xor .u32 ((rotr 17 y ^^^ rotr 19 y : Nat) : Int) ((y : Int) / 1024) = (sg1 y : Nat) := by
          rw [show ((y : Int) / 1024) = ((y / 1024 : Nat) : Int) by omega]; exact u32_xor_nat _ _ (xlt (rotr_lt (by omega) x2) (rotr_lt (by omega) x2)) (by omega)
        clear hvl
        have T7 : Hid (∀ w, Calls Tryd.prog 93 #[wv x, .int .i64 7] w fun e w' => e = .returned (.int .u32 (rotr 7 x : Nat)) ∧ ∃ m, w' = w.drewN m) := hide fun w => turn_any x 7 w x1 (by decide) (by decide)
        have T18 : Hid (∀ w, Calls Tryd.prog 93 #[wv x, .int .i64 18] w fun e w' => e = .returned (.int .u32 (rotr 18 x : Nat)) ∧ ∃ m, w' = w.drewN m) := hide fun w => turn_any x 18 w x1 (by decide) (by decide)
        have T17 : Hid (∀ w, Calls Tryd.prog 93 #[wv y, .int .i64 17] w fun e w' => e = .returned (.int .u32 (rotr 17 y : Nat)) ∧ ∃ m, w' = w.drewN m) := hide fun w => turn_any y 17 w x2 (by decide) (by decide)
        have T19 : Hid (∀ w, Calls Tryd.prog 93 #[wv y, .int .i64 19] w fun e w' => e = .returned (.int .u32 (rotr 19 y : Nat)) ∧ ∃ m, w' = w.drewN m) := hide fun w => turn_any y 19 w x2 (by decide) (by decide)
        go_wp2_with fail
        go_quiet (fail)
        go_wp2_with fail
        generalize hz0 : sg0 x = z0 at a2 HW s0l
        generalize hz1 : sg1 y = z1 at a4 HW s1l
        clear hz0 hz1
        have hval : ((p : Int) + q + z0 + z1) % 4294967296 = ((wd b k : Nat) : Int) := by rw [unhide HW]; omega
        refine wp_quiet_tail 28 (by kernel_rfl) (by kernel_rfl) ?_
        simp only [List.take_succ_cons, List.take_zero, List.drop_succ_cons, List.drop_zero]
        repeat (go_big_quiet_step (first | (go_at_call 93; with_reducible exact Calls.qd (unhide T7 _)) | (go_at_call 93; with_reducible exact Calls.qd (unhide T18 _)) | (go_at_call 93; with_reducible exact Calls.qd (unhide T17 _)) | (go_at_call 93; with_reducible exact Calls.qd (unhide T19 _))))
        refine wpQuiet_nil ?_
        intro _ hw'
        obtain ⟨n1, hw''⟩ := hw'
        subst hw''
        have HKN := hide (((unhide HK).drewN (nq + n1)).setCell (p := ⟨w.heap.size + 1, k, none⟩) (by simp) (wv (wd b k)))
        go_wp2
        go_roundw
        case rel => exact ⟨k + 1, _, by omega, by go_num, HMN, HN, HZN, HKN⟩
        case measure => simp [intOf]; omega
    · have hlt' : ¬ (k : Int) < 64 := by omega
      have hk64 : k = 64 := by omega
      subst hk64
      go_wp2_with (first
        | (refine wpList_load_row rfl 124 (.tmp 3) rfl (w.heap.size + 1) rfl _ (row ws) (0, 0) _ (unhide HR) Tryd.underlying124 rfl (by rw [row_size, (unhide HM).1]; exact Tryd.size_a64w) ?_)
        | (refine wpList_store_row rfl 124 (.tmp 2) (.tmp 56) rfl w.heap.size (row ws) rfl rfl _ (zw 64) (unhide HZ) (by rw [row_size, (unhide HM).1]; exact Tryd.size_a64w) (by rw [zw_size, row_size, (unhide HM).1]) (row_one _) ?_))
      refine bodyPost_ret (v := .agg (row ws)) ?_ rfl ⟨ws, rfl, (unhide HM).1, (unhide HM).2, (unhide HK).setRow (by simp) _⟩
      exact results_cell_row rfl _ _ w.heap.size _ (row ws) (0, 0) _ rfl (setRow_heap _ _ _ _ _ _ (unhide HZ)) Tryd.underlying124 rfl (by rw [row_size, (unhide HM).1]; exact Tryd.size_a64w)
end Go.Proofs.YtbbjbpjpejekgaaDoor
