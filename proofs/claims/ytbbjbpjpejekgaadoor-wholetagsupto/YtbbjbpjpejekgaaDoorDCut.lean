import Derived.Test.YtbbjbpjpejekgaaDoorRdSub
import Derived.Test.YtbbjbpjpejekgaaDoorQKeep
import Derived.Test.YtbbjbpjpejekgaaDoorSSum
namespace Go.Proofs.YtbbjbpjpejekgaaDoor
open Go.RowKit Go.BigFrame
set_option linter.unusedVariables false
set_option linter.unusedSimpArgs false

/-- The first k bytes of a digest, and noughts behind them. -/
def cutL (k : Nat) (d : List Nat) : List Nat := d.take k ++ List.replicate (32 - k) 0
theorem cutL_len (k : Nat) (d : List Nat) (hk : k ≤ 32) (hd : d.length = 32) : (cutL k d).length = 32 := by simp [cutL, hd]; omega
theorem cutL_byte (k : Nat) (d : List Nat) (hb : ∀ x ∈ d, x < 256) : ∀ x ∈ cutL k d, x < 256 := by
  intro x hx; simp only [cutL, List.mem_append, List.mem_replicate] at hx
  rcases hx with h | ⟨_, rfl⟩
  · exact hb x (List.mem_of_mem_take h)
  · decide
theorem Tryd.size_dig : (Tryd.prog.info? 26).map (·.size) = some 32 := by kernel_rfl

def widthB (z : Int) : Bool := decide (1 ≤ z ∧ z ≤ 32)

set_option maxRecDepth 100000 in
set_option maxHeartbeats 1000000 in
theorem isWidth_any (z : Int) (w : World) (hz : -9223372036854775808 ≤ z ∧ z ≤ 9223372036854775807) :
    Calls Tryd.prog 54 #[.int .i64 z] w fun e w' => e = .returned (.bool (widthB z)) ∧ w' = w := by
  by_cases h1 : 1 ≤ z
  · by_cases h2 : z ≤ 32
    · have hw : widthB z = true := by simp [widthB, h1, h2]
      rw [hw]
      clear hw
      go_enter Tryd.func54, Tryd.ntmps54
      go_wp2
      go_ret
      exact ⟨rfl, rfl⟩
    · have hw : widthB z = false := by simp [widthB, h2]
      rw [hw]
      clear hw
      go_enter Tryd.func54, Tryd.ntmps54
      go_wp2
      go_ret
      exact ⟨rfl, rfl⟩
  · have hw : widthB z = false := by simp [widthB, h1]
    rw [hw]
    clear hw
    go_enter Tryd.func54, Tryd.ntmps54
    go_wp2
    go_ret
    exact ⟨rfl, rfl⟩

set_option maxRecDepth 100000 in
set_option maxHeartbeats 1000000 in
theorem cut_any (k : Nat) (d : List Nat) (w : World) (h1 : 1 ≤ k) (h2 : k ≤ 32) (hd : d.length = 32) (hb : ∀ x ∈ d, x < 256) :
    Calls Tryd.prog 57 #[.int .i64 k, .agg (brow d)] w fun e w' => e = .returned (.agg (brow (cutL k d))) ∧ Kept [] w w' := by
  have HB := hide hb
  clear hb
  go_enter Tryd.func57, Tryd.ntmps57
  go_wp2_with fail
  rw [zb32]
  have HA := hide (heap_alloc3 w (.cells (brow d) 26) (.cells (zb 32) 26) (.cells (zb 32) 26))
  have HK := hide ((((Kept.refl [] w).alloc (.cells (brow d) 26)).alloc (.cells (zb 32) 26)).alloc (.cells (zb 32) 26))
  obtain ⟨W, hW⟩ : ∃ W, ((w.alloc (.cells (brow d) 26)).alloc (.cells (zb 32) 26)).alloc (.cells (zb 32) 26) = W := ⟨_, rfl⟩
  rw [hW] at HA HK ⊢
  clear hW
  have hcp : ∀ n, (Builtin.copy_ #[24, 24] 3 #[.slice (some ⟨w.heap.size + 1 + 1, 0, none⟩) k 32, .slice (some ⟨w.heap.size, 0, none⟩) 32 32]).run Tryd.prog (W.drewN n) = .ok (goInt k) ((W.drewN n).setRow (w.heap.size + 1 + 1) (brow (cutL k d))) := fun n => by
    have hcs : ((d.take k).map u8).length = k := by simp [hd]; omega
    have h9 := run_copy_row (P := Tryd.prog) (W.drewN n) 24 24 3 5 (w.heap.size + 1 + 1) 0 k 32 ⟨w.heap.size, 0, none⟩ 32 32 (zb 32) 26 ((d.take k).map u8) Tryd.underlying24 Tryd.size5 (unhide HA).2.2 (by rw [hcs]; exact (Nat.min_eq_right h2).symm)
      (fun j v hv => by
        have hj := (List.getElem?_eq_some_iff.1 hv).1
        rw [hcs] at hj
        have hc := brow_cell (w := W.drewN n) (unhide HA).1 j (by omega)
        rw [Addr.add_mid, Nat.zero_add, hc, ← hv, List.getElem?_map, List.getElem?_take, if_pos hj, List.getD_eq_getElem?_getD, List.getElem?_eq_getElem (show j < d.length by omega)]; rfl) (by rw [hcs, zb_size]; omega) (u8_oneCell _)
    rw [hcs] at h9
    rw [h9]
    congr 2
    have hz : (zb 32).toList = List.replicate 32 (u8 0) := by unfold zb brow; rw [List.map_replicate]
    rw [hz, List.take_zero, List.nil_append, Nat.zero_add, List.drop_replicate]
    unfold cutL brow
    rw [List.map_append, List.map_replicate]
  have hkI : (k : Int) ≤ 32 := by omega
  refine wp_quiet_tail 3 (by kernel_rfl) (by kernel_rfl) ?_
  simp only [List.take_succ_cons, List.take_zero, List.drop_succ_cons, List.drop_zero]
  repeat (go_big_quiet_step (fail))
  refine wpQuiet_nil ?_
  intro _ hw'
  obtain ⟨n1, hw''⟩ := hw'
  subst hw''
  have hcl := cutL_len k d h2 hd
  have HR := hide (setRow_heap (W.drewN n1) (w.heap.size + 1 + 1) (zb 32) (brow (cutL k d)) 26 (0, 0) (unhide HA).2.2)
  have HZ := hide ((setRow_other (W.drewN n1) (w.heap.size + 1 + 1) (w.heap.size + 1) (brow (cutL k d)) (by omega)).trans (unhide HA).2.1)
  have HKK := hide (((unhide HK).drewN n1).setRow (g := w.heap.size + 1 + 1) (Or.inr (by omega)) (brow (cutL k d)))
  go_wp2_with (first
    | (refine wpList_load_row rfl 26 _ rfl (w.heap.size + 1 + 1) rfl _ (brow (cutL k d)) (0, 0) _ (unhide HR) Tryd.underlying26 rfl (by rw [brow_size, hcl]; exact Tryd.size_dig) ?_)
    | (refine wpList_store_row rfl 26 _ _ rfl (w.heap.size + 1) (brow (cutL k d)) rfl rfl _ (zb 32) (unhide HZ) (by rw [brow_size, hcl]; exact Tryd.size_dig) (by rw [zb_size, brow_size, hcl]) (brow_one _) ?_))
  refine bodyPost_ret (v := .agg (brow (cutL k d))) ?_ rfl ⟨rfl, (unhide HKK).setRow (Or.inr (by omega)) _⟩
  exact results_cell_row rfl _ _ (w.heap.size + 1) _ (brow (cutL k d)) (0, 0) _ rfl (setRow_heap _ _ _ _ _ _ (unhide HZ)) Tryd.underlying26 rfl (by rw [brow_size, hcl]; exact Tryd.size_dig)

theorem eqItems_dig (P : Program) (w : World) (he : P.plainKey 5 = true) (hu : P.underlying 5 = some (.int .u8)) (d : Nat) (a b : List Nat) (n : Nat) (ha : a.length = n) (hb : b.length = n) :
    ∀ k s, s + k = n → (Op.eqItems (d + 1) 5 1 (brow a) (brow b) (List.range' s k)).run P w = .ok (decide (a.drop s = b.drop s)) w
  | 0, s, h => by
    have : a.drop s = b.drop s := by rw [List.drop_eq_nil_of_le (by omega), List.drop_eq_nil_of_le (by omega)]
    simp [Op.eqItems, this]
  | k + 1, s, h => by
    rw [List.range'_succ]
    simp only [Op.eqItems, Sem.run_bind, Nat.mul_one]
    rw [run_part_plain w he (brow_get a s (by omega)), Result.andThen_ok, run_part_plain w he (brow_get b s (by omega)), Result.andThen_ok]
    simp only [u8]
    rw [run_equalIn_int w d 5 _ _ _ _ hu, Result.andThen_ok]
    have hdd : decide (a.drop s = b.drop s) = (decide (a.getD s 0 = b.getD s 0) && decide (a.drop (s + 1) = b.drop (s + 1))) := by
      rw [List.drop_eq_getElem_cons (show s < a.length by omega), List.drop_eq_getElem_cons (show s < b.length by omega), List.getD_eq_getElem?_getD, List.getD_eq_getElem?_getD, List.getElem?_eq_getElem (show s < a.length by omega), List.getElem?_eq_getElem (show s < b.length by omega)]
      simp only [List.cons.injEq, Bool.decide_and, Option.getD_some]
    rw [hdd]
    by_cases e : a.getD s 0 = b.getD s 0
    · rw [e]
      simp only [beq_self_eq_true, Bool.not_true, Bool.false_eq_true, if_false]
      rw [eqItems_dig P w he hu d a b n ha hb k (s + 1) (by omega)]
      simp
    · have : ((a.getD s 0 : Int) == (b.getD s 0 : Int)) = false := by rw [beq_eq_false_iff_ne]; omega
      rw [this, decide_eq_false e]
      simp only [Bool.false_and, Bool.not_false, if_true, Sem.run_pure]
theorem dig_eq (w : World) (a b : List Nat) (ha : a.length = 32) (hb : b.length = 32) : (Op.equalIn 10000 26 (.agg (brow a)) (.agg (brow b))).run Tryd.prog w = .ok (decide (a = b)) w := by
  obtain ⟨i, hi, _⟩ := Option.map_eq_some_iff.1 Tryd.info5
  rw [run_equalIn_array w 9999 _ _ Tryd.underlying26 hi, List.range_eq_range', show Tryd.prog.cellsOf 5 = 1 from by kernel_rfl]
  exact eqItems_dig Tryd.prog w (by unfold Program.plainKey; rw [Tryd.underlying5]) Tryd.underlying5 9998 a b 32 ha hb 32 0 rfl

/-- Is d a digest of the width z? -/
def formB (z : Int) (d : List Nat) : Bool := widthB z && decide (cutL z.toNat d = d)

set_option maxRecDepth 100000 in
set_option maxHeartbeats 1000000 in
theorem form_any (z : Int) (d : List Nat) (w : World) (hz : -9223372036854775808 ≤ z ∧ z ≤ 9223372036854775807) (hd : d.length = 32) (hb : ∀ x ∈ d, x < 256) :
    Calls Tryd.prog 83 #[.int .i64 z, .agg (brow d)] w fun e w' => e = .returned (.bool (formB z d)) ∧ Kept [] w w' := by
  have HB := hide hb
  clear hb
  go_enter Tryd.func83, Tryd.ntmps83
  go_wp2_with fail
  have HA := hide (heap_alloc_new w (.cells (brow d) 26))
  have HK := hide ((Kept.refl [] w).alloc (.cells (brow d) 26))
  obtain ⟨W, hW⟩ : ∃ W, w.alloc (.cells (brow d) 26) = W := ⟨_, rfl⟩
  rw [hW] at HA HK ⊢
  clear hW
  have hne : ∀ p : Prop, (∀ w', Kept [] W w' → p) = p := fun p => propext ⟨fun h => h W (Kept.refl [] W), fun h _ _ => h⟩
  have HZZ := hide (by rw [brow_size, hd]; exact Tryd.size_dig : (Tryd.prog.info? 26).map (·.size) = some (brow d).size)
  have HIW := hide (fun w' (hw' : Kept [] W w') => (isWidth_any z w' hz).mono (fun e w2 (h2 : _ ∧ _) => (⟨h2.1, by rw [h2.2]; exact hw'⟩ : _ ∧ Kept [] W w2)))
  by_cases hw : widthB z = true
  · have HF := hide (by unfold formB; rw [hw, Bool.true_and] : formB z d = decide (cutL z.toNat d = d))
    rw [hw] at HIW
    obtain ⟨hz1, hz2⟩ : 1 ≤ z ∧ z ≤ 32 := by simpa [widthB] using hw
    obtain ⟨k, rfl⟩ : ∃ k : Nat, z = k := ⟨z.toNat, by omega⟩
    have HCT := hide (fun w' (hw' : Kept [] W w') => (cut_any k d w' (by omega) (by omega) hd (unhide HB)).mono (fun e w2 (h2 : _ ∧ _) => (⟨h2.1, hw'.trans h2.2 (by simp)⟩ : _ ∧ Kept [] W w2)))
    have hcl := cutL_len k d (by omega) hd
    rw [Int.toNat_natCast] at HF
    obtain ⟨C, hC⟩ : ∃ C, cutL k d = C := ⟨_, rfl⟩
    rw [hC] at HCT hcl HF
    have HE := hide (fun W => dig_eq W C d hcl hd)
    obtain ⟨q, hq⟩ : ∃ q : Bool, decide (C = d) = q := ⟨_, rfl⟩
    rw [hq] at HE HF
    clear hC hq hw
    refine wp_region_keep (by kernel_rfl) (by kernel_rfl) ?_
    go_big_quiet_step (fail)
    go_big_quiet_want
    go_big_quiet_op
    apply Exists.intro
    refine ⟨fun w' hw' => ?_, ?_⟩
    · exact unhide HIW w' hw'
    go_big_quiet_on
    go_big_quiet_step (fail)
    go_big_quiet_step (fail)
    refine wpQuiet_row rfl 26 (.tmp 3) rfl w.heap.size rfl _ (brow d) (0, 0) _ (fun w' hw' => hw'.heap (unhide HA) (by simp)) Tryd.underlying26 rfl (unhide HZZ) ?_
    simp only [Act.put, List.setIfInBounds_toArray, List.set_cons_succ, List.set_cons_zero]
    go_big_quiet_want
    go_big_quiet_op
    apply Exists.intro
    refine ⟨fun w' hw' => ?_, ?_⟩
    · exact unhide HCT w' hw'
    go_big_quiet_on
    refine wpQuiet_row rfl 26 (.tmp 3) rfl w.heap.size rfl _ (brow d) (0, 0) _ (fun w' hw' => hw'.heap (unhide HA) (by simp)) Tryd.underlying26 rfl (unhide HZZ) ?_
    simp only [Act.put, List.setIfInBounds_toArray, List.set_cons_succ, List.set_cons_zero]
    refine wpQuiet_val rfl (.bool q) (fun w' _ => run_eql 26 (.tmp 10) (.tmp 11) 26 rfl (brow C) (brow d) rfl rfl w' q (by kernel_rfl) (unhide HE w')) ?_
    simp only [Act.put, List.setIfInBounds_toArray, List.set_cons_succ, List.set_cons_zero]
    repeat (go_big_quiet_step (fail))
    refine wpQuiet_nil ?_
    intro w5 hw5
    have HK5 := hide ((unhide HK).trans hw5 (by simp))
    clear hw5 hne
    go_wp2
    go_ret
    exact ⟨by rw [unhide HF]; rfl, unhide HK5⟩
  · have hwf : widthB z = false := by simpa using hw
    have HF := hide (by unfold formB; rw [hwf, Bool.false_and] : formB z d = false)
    rw [hwf] at HIW
    clear hw hwf
    refine wp_region_keep (by kernel_rfl) (by kernel_rfl) ?_
    go_big_quiet_step (fail)
    go_big_quiet_want
    go_big_quiet_op
    apply Exists.intro
    refine ⟨fun w' hw' => ?_, ?_⟩
    · exact unhide HIW w' hw'
    go_big_quiet_on
    repeat (go_big_quiet_step (fail))
    refine wpQuiet_nil ?_
    intro w5 hw5
    have HK5 := hide ((unhide HK).trans hw5 (by simp))
    clear hw5 hne
    go_wp2
    go_ret
    exact ⟨by rw [unhide HF]; rfl, unhide HK5⟩
end Go.Proofs.YtbbjbpjpejekgaaDoor
