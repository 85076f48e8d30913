import Derived.Test.YtgnbigijpneebaaDoorDSameOp
import Derived.Test.YtgnbigijpneebaaDoorDWidth
namespace Go.Proofs.YtgnbigijpneebaaDoor
open Go.RowKit Go.BigFrame
set_option linter.unusedVariables false
set_option linter.unusedSimpArgs false

theorem op_put {w : World} {g : Nat} {o : OpD} {pv kv dv : Value} {t : TypeId} (h : w.heap[g]? = some (.cells (opC o pv kv dv).toArray t (0, 0))) (z : Int) : (w.setCell ⟨g, 1, none⟩ (.int .i64 z)).heap[g]? = some (.cells (opC { o with z := z } pv kv dv).toArray t (0, 0)) := by
  rw [heap_setCell_same w g 1 _ t _ h]
  unfold opC
  simp [Array.setIfInBounds]
theorem OkD.put {w : World} {o : OpD} {pv kv dv : Value} (h : OkD w o pv kv dv) (z : Int) (hz : -9223372036854775808 ≤ z ∧ z ≤ 9223372036854775807) : OkD w { o with z := z } pv kv dv :=
  ⟨h.kd, hz, h.p, h.pl, h.l, h.r, h.ps, h.psl, h.x, h.ds, h.s, h.lg, h.mp⟩

theorem put_z (a b : OpD) (z : Int) : ({ a with z := z } : OpD).z = ({ b with z := z } : OpD).z := rfl

set_option maxRecDepth 100000 in
set_option maxHeartbeats 2000000 in
theorem digestOneThing_walk (z : Int) (a b : OpD) (pa ka da pb kb db : Value) (w : World) (hz : -9223372036854775808 ≤ z ∧ z ≤ 9223372036854775807) (ha : OkD w a pa ka da) (hb : OkD w b pb kb db) (hT : Tabs w) :
    Calls Tryd.prog 7 #[.int .i64 z, .agg (opC a pa ka da).toArray, .agg (opC b pb kb db).toArray] w fun e w' => e = .returned (.bool true) ∧ Below w.heap.size w w' := by
  have HA := hide ha
  have HB := hide hb
  have HT := hide hT
  clear ha hb hT
  have HSA := hide (by rw [List.size_toArray, opC_len (unhide HA).l.1 (unhide HA).r.1 (unhide HA).lg.1 (unhide HA).mp.1]; exact Tryd.size_op : (Tryd.prog.info? 34).map (·.size) = some (opC a pa ka da).toArray.size)
  have HSB := hide (by rw [List.size_toArray, opC_len (unhide HB).l.1 (unhide HB).r.1 (unhide HB).lg.1 (unhide HB).mp.1]; exact Tryd.size_op : (Tryd.prog.info? 34).map (·.size) = some (opC b pb kb db).toArray.size)
  have HGA := hide (((Kept.refl [] (w.alloc (.cells (opC a pa ka da).toArray 34))).alloc (.cells (opC b pb kb db).toArray 34)).heap (heap_alloc_new w (.cells (opC a pa ka da).toArray 34)) (by simp))
  have HGB := hide (alloc_at w (.cells (opC a pa ka da).toArray 34) (.cells (opC b pb kb db).toArray 34))
  have HK0 := hide (((Kept.refl [] w).alloc (.cells (opC a pa ka da).toArray 34)).alloc (.cells (opC b pb kb db).toArray 34))
  go_enter Tryd.func7, Tryd.ntmps7
  go_wp2_with fail
  refine Calls.mono (dawake_any _ ((unhide HT).k (unhide HK0))) ?_
  rintro e w1 ⟨rfl, k1⟩
  have HN1 := hide (k1.heap (unhide HGA) (by simp))
  have HM1 := hide (k1.heap (unhide HGB) (by simp))
  have HK1 := hide ((unhide HK0).trans k1 (by simp))
  clear k1 HGA HGB HK0
  go_wp2_with (refine wpList_load_rowG rfl 34 _ rfl w.heap.size rfl _ (opC a pa ka da).toArray (0, 0) _ (unhide HN1) Tryd.underlying34 rfl (unhide HSA) ?_)
  refine Calls.mono (known_any a pa ka da _ ((unhide HA).old (unhide HK1))) ?_
  rintro e w2 ⟨rfl, k2⟩
  have HN2 := hide (k2.heap (unhide HN1) (by simp))
  have HM2 := hide (k2.heap (unhide HM1) (by simp))
  have HK2 := hide ((unhide HK1).trans k2 (by simp))
  clear k2 HN1 HM1 HK1
  by_cases hka : ¬ (1 ≤ a.kd ∧ a.kd ≤ 6)
  · rw [decide_eq_false hka]
    clear hka
    go_wp2
    go_ret
    exact ⟨rfl, (unhide HK2).below (Nat.le_refl _) (by simp)⟩
  replace hka := Decidable.not_not.1 hka
  rw [decide_eq_true hka]
  go_wp2_with (refine wpList_load_rowG rfl 34 _ rfl (w.heap.size + 1) rfl _ (opC b pb kb db).toArray (0, 0) _ (unhide HM2) Tryd.underlying34 rfl (unhide HSB) ?_)
  refine Calls.mono (known_any b pb kb db _ ((unhide HB).old (unhide HK2))) ?_
  rintro e w3 ⟨rfl, k3⟩
  have HN3 := hide (k3.heap (unhide HN2) (by simp))
  have HM3 := hide (k3.heap (unhide HM2) (by simp))
  have HK3 := hide ((unhide HK2).trans k3 (by simp))
  clear k3 HN2 HM2 HK2
  by_cases hkb : ¬ (1 ≤ b.kd ∧ b.kd ≤ 6)
  · rw [decide_eq_false hkb]
    clear hkb
    go_wp2
    go_ret
    exact ⟨rfl, (unhide HK3).below (Nat.le_refl _) (by simp)⟩
  replace hkb := Decidable.not_not.1 hkb
  rw [decide_eq_true hkb]
  go_wp2_with fail
  refine Calls.mono (width_any z _ hz) ?_
  rintro e w4 ⟨rfl, rfl⟩
  go_wp2_with fail
  refine Calls.mono (width_any z _ hz) ?_
  rintro e w5 ⟨rfl, rfl⟩
  have c1 := (op_cells (unhide HN3) (unhide HA).l.1 (unhide HA).r.1).1.2.1
  have d1 := (op_cells (unhide HM3) (unhide HB).l.1 (unhide HB).r.1).1.2.1
  have f1 := frozen_of_row _ _ 1 _ _ (unhide HN3)
  obtain ⟨k, hk⟩ : ∃ k, widthN3 z = k := ⟨_, rfl⟩
  have hkw : 1 ≤ k ∧ k ≤ 32 := by rw [← hk]; unfold widthN3; omega
  rw [hk]
  clear hk
  have HP1 := hide (op_put (unhide HN3) (k : Int))
  have HP2 := hide (by rw [heap_setCell_other _ _ _ _ (by simp)]; exact unhide HM3 : (w5.setCell ⟨w.heap.size, 1, none⟩ (.int .i64 (k : Int))).heap[w.heap.size + 1]? = some (.cells (opC b pb kb db).toArray 34))
  have d2 := (op_cells (unhide HP2) (unhide HB).l.1 (unhide HB).r.1).1.2.1
  have f2 := frozen_of_row _ _ 1 _ _ (unhide HP2)
  have HQ1 := hide (by rw [heap_setCell_other _ _ _ _ (by simp)]; exact unhide HP1 : ((w5.setCell ⟨w.heap.size, 1, none⟩ (.int .i64 (k : Int))).setCell ⟨w.heap.size + 1, 1, none⟩ (.int .i64 (k : Int))).heap[w.heap.size]? = some (.cells (opC { a with z := (k : Int) } pa ka da).toArray 34))
  have HQ2 := hide (op_put (unhide HP2) (k : Int))
  have HK5 := hide (((unhide HK3).setCell (p := ⟨w.heap.size, 1, none⟩) (by simp) (.int .i64 (k : Int))).setCell (p := ⟨w.heap.size + 1, 1, none⟩) (by simp) (.int .i64 (k : Int)))
  have HA5 := hide (((unhide HA).put (k : Int) (by omega)).old (unhide HK5))
  have HB5 := hide (((unhide HB).put (k : Int) (by omega)).old (unhide HK5))
  have HS5 := hide (by rw [List.size_toArray, opC_len (unhide HA5).l.1 (unhide HA5).r.1 (unhide HA5).lg.1 (unhide HA5).mp.1]; exact Tryd.size_op : (Tryd.prog.info? 34).map (·.size) = some (opC { a with z := (k : Int) } pa ka da).toArray.size)
  have HR5 := hide (by rw [List.size_toArray, opC_len (unhide HB5).l.1 (unhide HB5).r.1 (unhide HB5).lg.1 (unhide HB5).mp.1]; exact Tryd.size_op : (Tryd.prog.info? 34).map (·.size) = some (opC { b with z := (k : Int) } pb kb db).toArray.size)
  have HZ := hide (put_z a b (k : Int))
  have hka' : 1 ≤ ({ a with z := (k : Int) } : OpD).kd ∧ ({ a with z := (k : Int) } : OpD).kd ≤ 6 := hka
  have hkb' : 1 ≤ ({ b with z := (k : Int) } : OpD).kd ∧ ({ b with z := (k : Int) } : OpD).kd ≤ 6 := hkb
  clear hka hkb HP1 HP2
  generalize ({ a with z := (k : Int) } : OpD) = A at HQ1 HA5 HS5 HZ hka'
  generalize ({ b with z := (k : Int) } : OpD) = B at HQ2 HB5 HR5 HZ hkb'
  go_wp2_with (refine wpList_load_row rfl 34 _ rfl w.heap.size rfl _ (opC A pa ka da).toArray (0, 0) _ (unhide HQ1) Tryd.underlying34 rfl (unhide HS5) ?_)
  obtain ⟨W, hW⟩ : ∃ W, (w5.setCell ⟨w.heap.size, 1, none⟩ (.int .i64 (k : Int))).setCell ⟨w.heap.size + 1, 1, none⟩ (.int .i64 (k : Int)) = W := ⟨_, rfl⟩
  rw [hW] at HQ1 HQ2 HK5 HA5 HB5 ⊢
  clear hW f1 f2 d2 c1 d1
  refine Calls.mono (input_any A pa ka da W (unhide HA5) hka') ?_
  rintro e w6 ⟨v6, rfl, n6, k6⟩
  have HN6 := hide (k6.heap (unhide HQ1) (by simp))
  have HM6 := hide (k6.heap (unhide HQ2) (by simp))
  have HK6 := hide ((unhide HK5).trans k6 (by simp))
  have HA6 := hide ((unhide HA5).old k6)
  have HB6 := hide ((unhide HB5).old k6)
  have HR6 := hide n6.1
  obtain ⟨E, hE⟩ : ∃ E, inE A = E := ⟨_, rfl⟩
  have HE := hide hE
  obtain ⟨X, hX⟩ : ∃ X, (if E = 0 then inB A else []) = X := ⟨_, rfl⟩
  have HX := hide hX
  rw [hE, hX] at HR6
  rw [hE]
  clear hE hX n6 k6 HQ1 HQ2 HK5
  obtain ⟨a6, m6, c6, rfl, hm6, hc6, hc6', _, hby6, hcell6⟩ := id (unhide HR6)
  subst hm6
  have HBY := hide hby6
  have HCE := hide hcell6
  clear hby6 hcell6
  go_wp2_with (refine wpList_load_row rfl 34 _ rfl (w.heap.size + 1) rfl _ (opC B pb kb db).toArray (0, 0) _ (unhide HM6) Tryd.underlying34 rfl (unhide HR5) ?_)
  refine Calls.mono (input_any B pb kb db w6 (unhide HB6) hkb') ?_
  rintro e w7 ⟨v7, rfl, n7, k7⟩
  have HN7 := hide (k7.heap (unhide HN6) (by simp))
  have HM7 := hide (k7.heap (unhide HM6) (by simp))
  have HK7 := hide ((unhide HK6).trans k7 (by simp))
  have HA7 := hide ((unhide HA6).old k7)
  have HB7 := hide ((unhide HB6).old k7)
  have HR7 := hide ((unhide HR6).old k7 (by simp))
  have HS7 := hide n7.1
  obtain ⟨F, hF⟩ : ∃ E, inE B = E := ⟨_, rfl⟩
  have HF := hide hF
  obtain ⟨Y, hY⟩ : ∃ X, (if F = 0 then inB B else []) = X := ⟨_, rfl⟩
  have HY := hide hY
  rw [hF, hY] at HS7
  rw [hF]
  clear hF hY n7 HN6 HM6 HK6 HA6 HB6
  obtain ⟨a7, m7, c7, rfl, hm7, _⟩ := id (unhide HS7)
  subst hm7
  by_cases hE0 : ¬ E = 0
  · have hb1 : ((E : Int) != 0) = true := by rw [bne_iff_ne]; omega
    clear hE0
    go_wp2
    go_ret
    exact ⟨rfl, (unhide HK7).below (Nat.le_refl _) (by simp)⟩
  replace hE0 := Decidable.not_not.1 hE0
  have hb1 : ((E : Int) != 0) = false := by rw [hE0]; rfl
  by_cases hF0 : ¬ F = 0
  · have hb2 : ((F : Int) != 0) = true := by rw [bne_iff_ne]; omega
    have HE0 := hide hE0
    clear hF0 hE0
    go_wp2
    go_ret
    exact ⟨rfl, (unhide HK7).below (Nat.le_refl _) (by simp)⟩
  replace hF0 := Decidable.not_not.1 hF0
  have hb2 : ((F : Int) != 0) = false := by rw [hF0]; rfl
  obtain ⟨t, ht⟩ := inB_head A
  have hXe : X = tagOf A.kd :: t := by rw [← unhide HX, if_pos hE0, ht]
  have HIF := hide (inB_iff (unhide HA7) (unhide HB7) (unhide HZ) hka' hkb' (by rw [unhide HE, hE0]) (by rw [unhide HF, hF0]))
  have hXB : X = inB A := by rw [← unhide HX, if_pos hE0]
  have hYB : Y = inB B := by rw [← unhide HY, if_pos hF0]
  rw [← hXB, ← hYB] at HIF
  have HE0 := hide hE0
  have HF0 := hide hF0
  clear hE0 hF0 hXB hYB
  have hpos : 0 < X.length := by rw [hXe]; simp
  obtain ⟨bx, ox, rfl, hcx⟩ := unhide HCE hpos
  have c0 := k7.cell (hcx 0 hpos) (by simp)
  rw [Nat.add_zero, show X.getD 0 0 = tagOf A.kd by rw [hXe]; rfl] at c0
  have htag : ((tagOf A.kd : Int) == 5) = false := by
    rw [beq_eq_false_iff_ne]
    unfold tagOf
    split
    · decide
    split
    · decide
    split
    · decide
    split
    · decide
    split
    · decide
    decide
  have hx0 : ((X.length : Int) == 0) = false := by rw [beq_eq_false_iff_ne]; omega
  have HXE := hide hXe
  clear hXe ht hcx k7
  generalize tagOf A.kd = tg at c0 htag HXE
  have HKA := hide (op_cells (unhide HN7) (unhide HA7).l.1 (unhide HA7).r.1).1.1
  have HKB := hide (op_cells (unhide HM7) (unhide HB7).l.1 (unhide HB7).r.1).1.1
  have HC1 := hide (fun w' (hw' : Kept [] w7 w') => (same_any _ _ X Y w' ((unhide HR7).old hw' (by simp)) ((unhide HS7).old hw' (by simp))).mono (fun e w2 (h2 : _ ∧ ∃ n, w2 = _) => (⟨h2.1, by obtain ⟨n, hn⟩ := h2.2; rw [hn]; exact hw'.drewN n⟩ : _ ∧ Kept [] w7 w2)))
  have HC2 := hide (fun w' (hw' : Kept [] w7 w') => (sameOp_any A B pa ka da pb kb db w' ((unhide HA7).old hw') ((unhide HB7).old hw') hka').mono (fun e w2 (h2 : _ ∧ _) => (⟨h2.1, hw'.trans h2.2 (by simp)⟩ : _ ∧ Kept [] w7 w2)))
  by_cases hkk : A.kd = B.kd
  · have hke : (A.kd == B.kd) = true := by rw [hkk]; simp
    have hSS : decide (X = Y) = decide (sameD A B) := by
      have h9 := unhide HIF
      by_cases h8 : sameD A B
      · rw [decide_eq_true h8, decide_eq_true (h9.2 ⟨hkk, h8⟩)]
      · rw [decide_eq_false h8, decide_eq_false (fun e => h8 (h9.1 e).2)]
    rw [hSS] at HC1
    have HKK := hide hkk
    clear hkk hSS HIF
    generalize decide (sameD A B) = S at HC1 HC2
    by_cases hx1 : X.length = 1
    · have hx1' : ((X.length : Int) == 1) = true := by rw [hx1]; rfl
      have HX1 := hide hx1
      clear hx1
      go_wp2_with fail
      have hne : ∀ p : Prop, (∀ w', Kept [] w7 w' → p) = p := fun p => propext ⟨fun h => h w7 (Kept.refl [] w7), fun h _ _ => h⟩
      refine wp_region_keep (by kernel_rfl) (by kernel_rfl) ?_
      iterate 2 (go_big_quiet_step (fail))
      go_big_quiet_want
      go_big_quiet_op
      apply Exists.intro
      refine ⟨fun w' hw' => ?_, ?_⟩
      · exact unhide HC1 w' hw'
      go_big_quiet_on
      go_big_quiet_step (fail)
      refine wpQuiet_val rfl (.int .i64 A.kd) (fun w' hw' => run_load1 3 _ rfl ⟨w.heap.size, 0, none⟩ rfl w' _ .i64 Tryd.underlying3 (hw'.cell (unhide HKA) (by simp))) ?_
      simp only [Act.put, List.setIfInBounds_toArray, List.set_cons_succ, List.set_cons_zero]
      go_big_quiet_step (fail)
      refine wpQuiet_val rfl (.int .i64 B.kd) (fun w' hw' => run_load1 3 _ rfl ⟨w.heap.size + 1, 0, none⟩ rfl w' _ .i64 Tryd.underlying3 (hw'.cell (unhide HKB) (by simp))) ?_
      simp only [Act.put, List.setIfInBounds_toArray, List.set_cons_succ, List.set_cons_zero]
      iterate 2 (go_big_quiet_step (fail))
      refine wpQuiet_row rfl 34 _ rfl w.heap.size rfl _ (opC A pa ka da).toArray (0, 0) _ (fun w' hw' => hw'.heap (unhide HN7) (by simp)) Tryd.underlying34 rfl (unhide HS5) ?_
      simp only [Act.put, List.setIfInBounds_toArray, List.set_cons_succ, List.set_cons_zero]
      refine wpQuiet_row rfl 34 _ rfl (w.heap.size + 1) rfl _ (opC B pb kb db).toArray (0, 0) _ (fun w' hw' => hw'.heap (unhide HM7) (by simp)) Tryd.underlying34 rfl (unhide HR5) ?_
      simp only [Act.put, List.setIfInBounds_toArray, List.set_cons_succ, List.set_cons_zero]
      go_big_quiet_want
      go_big_quiet_op
      apply Exists.intro
      refine ⟨fun w' hw' => ?_, ?_⟩
      · exact unhide HC2 w' hw'
      go_big_quiet_on
      repeat (go_big_quiet_step (fail))
      refine wpQuiet_nil ?_
      intro w8 hw8
      have HK8 := hide ((unhide HK7).trans hw8 (by simp))
      clear hw8 hne
      go_wp2
      go_ret
      exact ⟨rfl, (unhide HK8).below (Nat.le_refl _) (by simp)⟩
    · have hx1' : ((X.length : Int) == 1) = false := by rw [beq_eq_false_iff_ne]; omega
      have HX1 := hide hx1
      clear hx1
      go_wp2_with fail
      have hne : ∀ p : Prop, (∀ w', Kept [] w7 w' → p) = p := fun p => propext ⟨fun h => h w7 (Kept.refl [] w7), fun h _ _ => h⟩
      refine wp_region_keep (by kernel_rfl) (by kernel_rfl) ?_
      iterate 2 (go_big_quiet_step (fail))
      go_big_quiet_want
      go_big_quiet_op
      apply Exists.intro
      refine ⟨fun w' hw' => ?_, ?_⟩
      · exact unhide HC1 w' hw'
      go_big_quiet_on
      go_big_quiet_step (fail)
      refine wpQuiet_val rfl (.int .i64 A.kd) (fun w' hw' => run_load1 3 _ rfl ⟨w.heap.size, 0, none⟩ rfl w' _ .i64 Tryd.underlying3 (hw'.cell (unhide HKA) (by simp))) ?_
      simp only [Act.put, List.setIfInBounds_toArray, List.set_cons_succ, List.set_cons_zero]
      go_big_quiet_step (fail)
      refine wpQuiet_val rfl (.int .i64 B.kd) (fun w' hw' => run_load1 3 _ rfl ⟨w.heap.size + 1, 0, none⟩ rfl w' _ .i64 Tryd.underlying3 (hw'.cell (unhide HKB) (by simp))) ?_
      simp only [Act.put, List.setIfInBounds_toArray, List.set_cons_succ, List.set_cons_zero]
      iterate 2 (go_big_quiet_step (fail))
      refine wpQuiet_row rfl 34 _ rfl w.heap.size rfl _ (opC A pa ka da).toArray (0, 0) _ (fun w' hw' => hw'.heap (unhide HN7) (by simp)) Tryd.underlying34 rfl (unhide HS5) ?_
      simp only [Act.put, List.setIfInBounds_toArray, List.set_cons_succ, List.set_cons_zero]
      refine wpQuiet_row rfl 34 _ rfl (w.heap.size + 1) rfl _ (opC B pb kb db).toArray (0, 0) _ (fun w' hw' => hw'.heap (unhide HM7) (by simp)) Tryd.underlying34 rfl (unhide HR5) ?_
      simp only [Act.put, List.setIfInBounds_toArray, List.set_cons_succ, List.set_cons_zero]
      go_big_quiet_want
      go_big_quiet_op
      apply Exists.intro
      refine ⟨fun w' hw' => ?_, ?_⟩
      · exact unhide HC2 w' hw'
      go_big_quiet_on
      repeat (go_big_quiet_step (fail))
      refine wpQuiet_nil ?_
      intro w8 hw8
      have HK8 := hide ((unhide HK7).trans hw8 (by simp))
      clear hw8 hne
      go_wp2
      go_ret
      exact ⟨rfl, (unhide HK8).below (Nat.le_refl _) (by simp)⟩
  · have hke : (A.kd == B.kd) = false := by rw [beq_eq_false_iff_ne]; exact hkk
    have hSS : decide (X = Y) = false := decide_eq_false (fun e => hkk ((unhide HIF).1 e).1)
    rw [hSS] at HC1
    have HKK := hide hkk
    clear hkk hSS HIF HC2
    by_cases hx1 : X.length = 1
    · have hx1' : ((X.length : Int) == 1) = true := by rw [hx1]; rfl
      have HX1 := hide hx1
      clear hx1
      go_wp2_with fail
      have hne : ∀ p : Prop, (∀ w', Kept [] w7 w' → p) = p := fun p => propext ⟨fun h => h w7 (Kept.refl [] w7), fun h _ _ => h⟩
      refine wp_region_keep (by kernel_rfl) (by kernel_rfl) ?_
      iterate 2 (go_big_quiet_step (fail))
      go_big_quiet_want
      go_big_quiet_op
      apply Exists.intro
      refine ⟨fun w' hw' => ?_, ?_⟩
      · exact unhide HC1 w' hw'
      go_big_quiet_on
      go_big_quiet_step (fail)
      refine wpQuiet_val rfl (.int .i64 A.kd) (fun w' hw' => run_load1 3 _ rfl ⟨w.heap.size, 0, none⟩ rfl w' _ .i64 Tryd.underlying3 (hw'.cell (unhide HKA) (by simp))) ?_
      simp only [Act.put, List.setIfInBounds_toArray, List.set_cons_succ, List.set_cons_zero]
      go_big_quiet_step (fail)
      refine wpQuiet_val rfl (.int .i64 B.kd) (fun w' hw' => run_load1 3 _ rfl ⟨w.heap.size + 1, 0, none⟩ rfl w' _ .i64 Tryd.underlying3 (hw'.cell (unhide HKB) (by simp))) ?_
      simp only [Act.put, List.setIfInBounds_toArray, List.set_cons_succ, List.set_cons_zero]
      iterate 2 (go_big_quiet_step (fail))
      repeat (go_big_quiet_step (fail))
      refine wpQuiet_nil ?_
      intro w8 hw8
      have HK8 := hide ((unhide HK7).trans hw8 (by simp))
      clear hw8 hne
      go_wp2
      go_ret
      exact ⟨rfl, (unhide HK8).below (Nat.le_refl _) (by simp)⟩
    · have hx1' : ((X.length : Int) == 1) = false := by rw [beq_eq_false_iff_ne]; omega
      have HX1 := hide hx1
      clear hx1
      go_wp2_with fail
      have hne : ∀ p : Prop, (∀ w', Kept [] w7 w' → p) = p := fun p => propext ⟨fun h => h w7 (Kept.refl [] w7), fun h _ _ => h⟩
      refine wp_region_keep (by kernel_rfl) (by kernel_rfl) ?_
      iterate 2 (go_big_quiet_step (fail))
      go_big_quiet_want
      go_big_quiet_op
      apply Exists.intro
      refine ⟨fun w' hw' => ?_, ?_⟩
      · exact unhide HC1 w' hw'
      go_big_quiet_on
      go_big_quiet_step (fail)
      refine wpQuiet_val rfl (.int .i64 A.kd) (fun w' hw' => run_load1 3 _ rfl ⟨w.heap.size, 0, none⟩ rfl w' _ .i64 Tryd.underlying3 (hw'.cell (unhide HKA) (by simp))) ?_
      simp only [Act.put, List.setIfInBounds_toArray, List.set_cons_succ, List.set_cons_zero]
      go_big_quiet_step (fail)
      refine wpQuiet_val rfl (.int .i64 B.kd) (fun w' hw' => run_load1 3 _ rfl ⟨w.heap.size + 1, 0, none⟩ rfl w' _ .i64 Tryd.underlying3 (hw'.cell (unhide HKB) (by simp))) ?_
      simp only [Act.put, List.setIfInBounds_toArray, List.set_cons_succ, List.set_cons_zero]
      iterate 2 (go_big_quiet_step (fail))
      repeat (go_big_quiet_step (fail))
      refine wpQuiet_nil ?_
      intro w8 hw8
      have HK8 := hide ((unhide HK7).trans hw8 (by simp))
      clear hw8 hne
      go_wp2
      go_ret
      exact ⟨rfl, (unhide HK8).below (Nat.le_refl _) (by simp)⟩
end Go.Proofs.YtgnbigijpneebaaDoor
