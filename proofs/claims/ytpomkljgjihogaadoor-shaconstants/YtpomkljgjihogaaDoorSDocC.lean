import Derived.Test.YtpomkljgjihogaaDoorRComp
import Derived.Test.YtpomkljgjihogaaDoorSAw
import Derived.Test.YtpomkljgjihogaaDoorQRow
namespace Go.Proofs.YtpomkljgjihogaaDoor
open Go.RowKit Go.BigFrame
set_option linter.unusedVariables false
set_option linter.unusedSimpArgs false

/-- A whole array of bytes, cut by [:]. -/
theorem rd_arr {w : World} {g : Nat} {bs : List Nat} {t : TypeId} {fr : Nat × Nat} (h : w.heap[g]? = some (.cells (brow bs) t fr)) (hb : ∀ x ∈ bs, x < 256) (n : Nat) (hn : bs.length = n) (hl : n ≤ 140737488355328) :
    Rd w (.slice (some ⟨g, 0, none⟩) n n) bs := by
  refine ⟨_, _, _, rfl, hn, Nat.le_refl _, ⟨by omega, hl⟩, by simp, hb, fun hp => ⟨g, 0, rfl, fun i hi => ?_⟩⟩
  rw [Nat.zero_add]; exact brow_cell h i (by omega)

set_option maxRecDepth 100000 in
set_option maxHeartbeats 1000000 in
theorem docCompress_any (h b : List Nat) (w : World) (hh : Wds h) (hl : b.length = 64) (hb : ∀ x ∈ b, x < 256) :
    Calls Tryd.prog 10 #[.agg (row h), .agg (brow b)] w fun e w' => e = .returned (.agg (row (comp h b))) ∧ Kept [] w w' := by
  have HH := hide hh
  have HB := hide hb
  clear hh hb
  go_enter Tryd.func10, Tryd.ntmps10
  go_wp2_with fail
  rw [zw8]
  have HA := hide (heap_alloc3 w (.cells (row h) 24) (.cells (brow b) 30) (.cells (zw 8) 24))
  have HK := hide ((((Kept.refl [] w).alloc (.cells (row h) 24)).alloc (.cells (brow b) 30)).alloc (.cells (zw 8) 24))
  obtain ⟨W, hW⟩ : ∃ W, ((w.alloc (.cells (row h) 24)).alloc (.cells (brow b) 30)).alloc (.cells (zw 8) 24) = W := ⟨_, rfl⟩
  rw [hW] at HA HK ⊢
  clear hW
  refine wp_quiet_tail 2 (by kernel_rfl) (by kernel_rfl) ?_
  simp only [List.take_succ_cons, List.take_zero, List.drop_succ_cons, List.drop_zero]
  refine wpQuiet_load_row rfl 24 (.tmp 2) rfl w.heap.size rfl _ (row h) (0, 0) _ (fun w' hw' => by obtain ⟨m, e⟩ := hw'; rw [e]; exact (unhide HA).1) Tryd.underlying24 rfl (by rw [row_size, (unhide HH).1]; exact Tryd.size_a8) ?_
  simp only [Act.put, List.setIfInBounds_toArray, List.set_cons_succ, List.set_cons_zero]
  repeat (go_big_quiet_step (fail))
  refine wpQuiet_nil ?_
  intro _ hw'
  obtain ⟨n1, hw''⟩ := hw'
  subst hw''
  go_wp2_with fail
  refine (refcomp_any _ h b (W.drewN n1) (unhide HH) (rd_arr (w := W.drewN n1) (unhide HA).2.1 (unhide HB) 64 hl (by decide)) hl).mono ?_
  rintro e w1 ⟨rfl, k1⟩
  have HZ := hide (k1.heap (unhide HA).2.2 (by simp))
  have HK1 := hide (((unhide HK).drewN n1).trans k1 (by simp))
  clear k1
  go_wp2_with (refine wpList_store_row rfl 24 (.tmp 4) _ rfl (w.heap.size + 1 + 1) (row (comp h b)) rfl rfl _ (zw 8) (unhide HZ) (by rw [row_size]; exact Tryd.size_a8) (by rw [zw_size, row_size]; rfl) (row_one _) ?_)
  refine bodyPost_ret (v := .agg (row (comp h b))) ?_ rfl ⟨rfl, (unhide HK1).setRow (Or.inr (by omega)) _⟩
  exact results_cell_row rfl _ _ (w.heap.size + 1 + 1) _ (row (comp h b)) (0, 0) _ rfl (setRow_heap _ _ _ _ _ _ (unhide HZ)) Tryd.underlying24 rfl (by rw [row_size]; exact Tryd.size_a8)

theorem eqItems_words (P : Program) (w : World) (e : TypeId) (he : P.plainKey e = true) (hu : P.underlying e = some (.int .u32)) (d : Nat) (a b : List Nat) (n : Nat) (ha : a.length = n) (hb : b.length = n) :
    ∀ k s, s + k = n → (Op.eqItems (d + 1) e 1 (row a) (row b) (List.range' s k)).run P w = .ok (decide (a.drop s = b.drop s)) w
  | 0, s, h => by
    have : a.drop s = b.drop s := by rw [List.drop_eq_nil_of_le (by omega), List.drop_eq_nil_of_le (by omega)]
    simp [Op.eqItems, this]
  | k + 1, s, h => by
    rw [List.range'_succ]
    simp only [Op.eqItems, Sem.run_bind, Nat.mul_one]
    rw [run_part_plain w he (row_get a s (by omega)), Result.andThen_ok, run_part_plain w he (row_get b s (by omega)), Result.andThen_ok]
    simp only [wv]
    rw [run_equalIn_int w d e _ _ _ _ hu, Result.andThen_ok, drop_dec (by omega) (by omega)]
    by_cases e1 : a.getD s 0 = b.getD s 0
    · rw [e1]
      simp only [beq_self_eq_true, Bool.not_true, Bool.false_eq_true, if_false]
      rw [eqItems_words P w e he hu d a b n ha hb k (s + 1) (by omega)]
      simp
    · have : ((a.getD s 0 : Int) == (b.getD s 0 : Int)) = false := by rw [beq_eq_false_iff_ne]; omega
      rw [this, decide_eq_false e1]
      simp only [Bool.false_and, Bool.not_false, if_true, Sem.run_pure]
theorem Tryd.infoWord : (Tryd.prog.info? 23).map (fun i => (i.zero, i.size, i.bytes)) = some (some (.int .u32 0), 1, 4) := by kernel_rfl
theorem row_eq8 (w : World) (a b : List Nat) (ha : a.length = 8) (hb : b.length = 8) : (Op.equalIn 10000 24 (.agg (row a)) (.agg (row b))).run Tryd.prog w = .ok (decide (a = b)) w := by
  obtain ⟨i, hi, _⟩ := Option.map_eq_some_iff.1 Tryd.infoWord
  rw [run_equalIn_array w 9999 _ _ Tryd.underlying24 hi, List.range_eq_range', show Tryd.prog.cellsOf 23 = 1 from by kernel_rfl]
  exact eqItems_words Tryd.prog w 23 (by unfold Program.plainKey; rw [Tryd.underlying23]) Tryd.underlying23 9998 a b 8 ha hb 8 0 rfl
end Go.Proofs.YtpomkljgjihogaaDoor
