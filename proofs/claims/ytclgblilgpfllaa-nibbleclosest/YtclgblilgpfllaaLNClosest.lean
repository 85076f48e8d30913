import Derived.Test.YtclgblilgpfllaaNUlt
import Derived.Test.YtclgblilgpfllaaQMid
namespace Go.Proofs.Ytclgblilgpfllaa
open Go.RowKit Go.BigFrame
set_option linter.unusedVariables false
set_option linter.unusedSimpArgs false

theorem range_kept {L : List Nat} {w w' : World} {b o : Nat} {cs : List Value} (h : w.rangeAt b o cs) (k : Kept L w w') (hb : b ∉ L) : w'.rangeAt b o cs := fun j v hv => k.cell (h j v hv) hb

set_option maxRecDepth 100000 in
set_option maxHeartbeats 4000000 in
theorem nibbleClosest_walk (z : Int) (v : Value) (ls : List (List Nat)) (w : World) (hz : -9223372036854775808 ≤ z ∧ z ≤ 9223372036854775807) (hv : RdD w v ls) :
    Calls Try.prog 8 #[.int .i64 z, v] w fun e w' => e = .returned (.bool true) ∧ Below w.heap.size w w' := by
  have HV := hide hv
  obtain ⟨ao, len, cap, rfl, h1, h2, h3, h4, h5⟩ := hv
  subst h1
  have H4 := hide h4
  have H5 := hide h5
  clear h4 h5
  go_enter Try.func8, Try.ntmps8
  go_wp2_with fail
  refine Calls.mono (nawake_any _) ?_
  rintro e w1 ⟨rfl, k1⟩
  have HK1 := hide k1
  clear k1
  by_cases hL : ls.length < 3
  · have hL' : (ls.length : Int) < 3 := by omega
    have dL : decide ((ls.length : Int) < 3) = true := decide_eq_true hL'
    go_wp2_with fail
    have hne : ∀ p : Prop, (∀ w', Kept [] w1 w' → p) = p := fun p => propext ⟨fun h => h w1 (Kept.refl [] w1), fun h _ _ => h⟩
    refine wp_region_keep (by kernel_rfl) (by kernel_rfl) ?_
    repeat (go_big_quiet_step (fail))
    refine wpQuiet_nil ?_
    intro w5 hw5
    have HK5 := hide ((unhide HK1).trans hw5 (by simp))
    clear hne hw5
    go_wp2
    go_ret
    exact ⟨rfl, (unhide HK5).below (Nat.le_refl _) (by simp)⟩
  · have hL' : ¬ (ls.length : Int) < 3 := by omega
    have dL : decide ((ls.length : Int) < 3) = false := decide_eq_false hL'
    obtain ⟨g, off, rfl, hcell⟩ := unhide H5 (by omega)
    have mem : ∀ i, i < ls.length → Dg (ls.getD i []) := fun i hi => unhide H4 _ (by rw [List.getD_eq_getElem?_getD, List.getElem?_eq_getElem hi]; exact List.getElem_mem hi)
    have hA := mem 0 (by omega)
    have hB := mem 1 (by omega)
    have hC := mem 2 (by omega)
    have RA := hide (fun j v hv => (unhide HK1).cell (hcell 0 (by omega) j v hv) (by simp) : w1.rangeAt g (off + 0 * 32) ((ls.getD 0 []).map u8))
    have RB := hide (fun j v hv => (unhide HK1).cell (hcell 1 (by omega) j v hv) (by simp) : w1.rangeAt g (off + 1 * 32) ((ls.getD 1 []).map u8))
    have RC := hide (fun j v hv => (unhide HK1).cell (hcell 2 (by omega) j v hv) (by simp) : w1.rangeAt g (off + 2 * 32) ((ls.getD 2 []).map u8))
    clear mem hcell
    generalize ls.getD 0 [] = a at *
    generalize ls.getD 1 [] = b at *
    generalize ls.getD 2 [] = c at *
    have SA := hide (by rw [List.length_map, hA.1]; exact Try.size_dig : (Try.prog.info? 23).map (·.size) = some (a.map u8).length)
    have SB := hide (by rw [List.length_map, hB.1]; exact Try.size_dig : (Try.prog.info? 23).map (·.size) = some (b.map u8).length)
    have SC := hide (by rw [List.length_map, hC.1]; exact Try.size_dig : (Try.prog.info? 23).map (·.size) = some (c.map u8).length)
    rw [show off + 0 * 32 = off by omega] at RA
    rw [show off + 1 * 32 = off + 32 by omega] at RB
    rw [show off + 2 * 32 = off + 64 by omega] at RC
    have l0 : (0 : Int) < ls.length := by omega
    have l1 : (1 : Int) < ls.length := by omega
    have l2 : (2 : Int) < ls.length := by omega
    have hne : ∀ p : Prop, (∀ w', Kept [] w1 w' → p) = p := fun p => propext ⟨fun h => h w1 (Kept.refl [] w1), fun h _ _ => h⟩
    have C1 := hide (fun w' (hw' : Kept [] w1 w') => (fit_any z a b w' hz hA hB).mono (fun e w2 (h2 : _ ∧ _) => (⟨h2.1, hw'.trans h2.2 (by simp)⟩ : _ ∧ Kept [] w1 w2)))
    have C2 := hide (fun w' (hw' : Kept [] w1 w') => (fit_any z c c w' hz hC hC).mono (fun e w2 (h2 : _ ∧ _) => (⟨h2.1, hw'.trans h2.2 (by simp)⟩ : _ ∧ Kept [] w1 w2)))
    go_wp2_with fail
    refine wp_region_keep (by kernel_rfl) (by kernel_rfl) ?_
    repeat (go_big_quiet_step (fail))
    refine wpQuiet_mid rfl 23 _ rfl g off rfl (a.map u8) _ (fun w' hw' => range_kept (unhide RA) hw' (by simp)) Try.underlying23 rfl (unhide SA) ?_
    simp only [Act.put, List.setIfInBounds_toArray, List.set_cons_succ, List.set_cons_zero]
    repeat (go_big_quiet_step (fail))
    refine wpQuiet_mid rfl 23 _ rfl g (off + 32) rfl (b.map u8) _ (fun w' hw' => range_kept (unhide RB) hw' (by simp)) Try.underlying23 rfl (unhide SB) ?_
    simp only [Act.put, List.setIfInBounds_toArray, List.set_cons_succ, List.set_cons_zero]
    repeat (go_big_quiet_step (fail))
    cases hf1 : fitB z a b with
    | false =>
      rw [hf1] at C1
      clear hf1
      go_big_quiet_want
      go_big_quiet_op
      apply Exists.intro
      refine ⟨fun w' hw' => ?_, ?_⟩
      · exact unhide C1 w' hw'
      go_big_quiet_on
      repeat (go_big_quiet_step (fail))
      refine wpQuiet_nil ?_
      intro w5 hw5
      have HK5 := hide ((unhide HK1).trans hw5 (by simp))
      clear hne hw5
      go_wp2
      go_ret
      exact ⟨rfl, (unhide HK5).below (Nat.le_refl _) (by simp)⟩
    | true =>
      have F1 := hide hf1
      rw [hf1] at C1
      clear hf1
      go_big_quiet_want
      go_big_quiet_op
      apply Exists.intro
      refine ⟨fun w' hw' => ?_, ?_⟩
      · exact unhide C1 w' hw'
      go_big_quiet_on
      repeat (go_big_quiet_step (fail))
      refine wpQuiet_mid rfl 23 _ rfl g (off + 64) rfl (c.map u8) _ (fun w' hw' => range_kept (unhide RC) hw' (by simp)) Try.underlying23 rfl (unhide SC) ?_
      simp only [Act.put, List.setIfInBounds_toArray, List.set_cons_succ, List.set_cons_zero]
      repeat (go_big_quiet_step (fail))
      refine wpQuiet_mid rfl 23 _ rfl g (off + 64) rfl (c.map u8) _ (fun w' hw' => range_kept (unhide RC) hw' (by simp)) Try.underlying23 rfl (unhide SC) ?_
      simp only [Act.put, List.setIfInBounds_toArray, List.set_cons_succ, List.set_cons_zero]
      repeat (go_big_quiet_step (fail))
      cases hf2 : fitB z c c with
      | false =>
        rw [hf2] at C2
        clear hf2
        go_big_quiet_want
        go_big_quiet_op
        apply Exists.intro
        refine ⟨fun w' hw' => ?_, ?_⟩
        · exact unhide C2 w' hw'
        go_big_quiet_on
        repeat (go_big_quiet_step (fail))
        refine wpQuiet_nil ?_
        intro w5 hw5
        have HK5 := hide ((unhide HK1).trans hw5 (by simp))
        clear hne hw5
        go_wp2
        go_ret
        exact ⟨rfl, (unhide HK5).below (Nat.le_refl _) (by simp)⟩
      | true =>
        have F2 := hide hf2
        rw [hf2] at C2
        clear hf2
        go_big_quiet_want
        go_big_quiet_op
        apply Exists.intro
        refine ⟨fun w' hw' => ?_, ?_⟩
        · exact unhide C2 w' hw'
        go_big_quiet_on
        repeat (go_big_quiet_step (fail))
        refine wpQuiet_nil ?_
        intro w5 hw5
        have HK5 := hide ((unhide HK1).trans hw5 (by simp))
        have RA5 := hide (range_kept (unhide RA) hw5 (by simp))
        have RB5 := hide (range_kept (unhide RB) hw5 (by simp))
        have RC5 := hide (range_kept (unhide RC) hw5 (by simp))
        clear hne hw5 C1 C2 RA RB RC HK1
        have ff : fitB z a b = true ∧ fitB z c c = true := ⟨unhide F1, unhide F2⟩
        have fa : formB z a = true ∧ formB z b = true ∧ formB z c = true := by
          have h1 := ff.1
          have h2 := ff.2
          unfold fitB at h1 h2
          simp only [Bool.and_eq_true] at h1 h2
          exact ⟨h1.1, h1.2, h2.1⟩
        have e1 := fit_formed (z := z) (a := a) (b := b) ff.1
        have e2 := fit_formed (z := z) (a := b) (b := c) (by unfold fitB; rw [fa.2.1, fa.2.2]; rfl)
        have e3 := fit_formed (z := z) (a := a) (b := c) (by unfold fitB; rw [fa.1, fa.2.2]; rfl)
        obtain ⟨k, rfl, hk1, hk⟩ := wid_of e1
        have x1 : comC (k : Int) a b = comL a b (2 * k) 0 := by unfold comC; rw [if_pos e1, Int.toNat_natCast]
        have x2 : comC (k : Int) b c = comL b c (2 * k) 0 := by unfold comC; rw [if_pos e2, Int.toNat_natCast]
        have x3 : comC (k : Int) a c = comL a c (2 * k) 0 := by unfold comC; rw [if_pos e3, Int.toNat_natCast]
        have y1 : ordC (k : Int) a b = ordL a b := by unfold ordC; rw [if_pos e1]
        have y2 : ordC (k : Int) b c = ordL b c := by unfold ordC; rw [if_pos e2]
        have y3 : ordC (k : Int) a c = ordL a c := by unfold ordC; rw [if_pos e3]
        have U1 := hide (ultra a b c (2 * k))
        have U2 := hide (by have h := ultra a c b (2 * k); rw [comL_comm c b] at h; exact h : min (comL a c (2 * k) 0) (comL b c (2 * k) 0) ≤ comL a b (2 * k) 0)
        have U3 := hide (by have h := ultra b a c (2 * k); rw [comL_comm b a] at h; exact h : min (comL a b (2 * k) 0) (comL a c (2 * k) 0) ≤ comL b c (2 * k) 0)
        have U4 := hide (fun p q => ordL_trans a b c (by rw [hA.1, hB.1]) (by rw [hB.1, hC.1]) p q)
        have U5 := hide (fun p q => between hA hB hC (n := 2 * k) (by omega) p q)
        have U6 := hide (fun p q => between' hA hB hC (n := 2 * k) (by omega) p q)
        have b1 := com_le a b (2 * k)
        have b2 := com_le b c (2 * k)
        have b3 := com_le a c (2 * k)
        have o1 := ordL_range a b
        have o2 := ordL_range b c
        have o3 := ordL_range a c
        clear ff fa F1 F2
        have C6 := hide (fun w' (hw' : Kept [] w5 w') => (common_any k a b w' hz hA hB).mono (fun e w2 (h2 : _ ∧ _) => (⟨h2.1, hw'.trans h2.2 (by simp)⟩ : _ ∧ Kept [] w5 w2)))
        rw [x1, e1] at C6
        have hne : ∀ p : Prop, (∀ w', Kept [] w5 w' → p) = p := fun p => propext ⟨fun h => h w5 (Kept.refl [] w5), fun h _ _ => h⟩
        go_wp2_with fail
        refine wp_region_keep (by kernel_rfl) (by kernel_rfl) ?_
        repeat (go_big_quiet_step (fail))
        refine wpQuiet_mid rfl 23 _ rfl g off rfl (a.map u8) _ (fun w' hw' => range_kept (unhide RA5) hw' (by simp)) Try.underlying23 rfl (unhide SA) ?_
        simp only [Act.put, List.setIfInBounds_toArray, List.set_cons_succ, List.set_cons_zero]
        repeat (go_big_quiet_step (fail))
        refine wpQuiet_mid rfl 23 _ rfl g (off + 32) rfl (b.map u8) _ (fun w' hw' => range_kept (unhide RB5) hw' (by simp)) Try.underlying23 rfl (unhide SB) ?_
        simp only [Act.put, List.setIfInBounds_toArray, List.set_cons_succ, List.set_cons_zero]
        go_big_quiet_want
        go_big_quiet_op
        apply Exists.intro
        refine ⟨fun w' hw' => ?_, ?_⟩
        · exact unhide C6 w' hw'
        go_big_quiet_on
        repeat (go_big_quiet_step (fail))
        refine wpQuiet_nil ?_
        intro w6 hw6
        have HK6 := hide ((unhide HK5).trans hw6 (by simp))
        have RA6 := hide (range_kept (unhide RA5) hw6 (by simp))
        have RB6 := hide (range_kept (unhide RB5) hw6 (by simp))
        have RC6 := hide (range_kept (unhide RC5) hw6 (by simp))
        clear hne hw6 C6 RA5 RB5 RC5 HK5
        have C7 := hide (fun w' (hw' : Kept [] w6 w') => (common_any k b c w' hz hB hC).mono (fun e w2 (h2 : _ ∧ _) => (⟨h2.1, hw'.trans h2.2 (by simp)⟩ : _ ∧ Kept [] w6 w2)))
        rw [x2, e2] at C7
        have hne : ∀ p : Prop, (∀ w', Kept [] w6 w' → p) = p := fun p => propext ⟨fun h => h w6 (Kept.refl [] w6), fun h _ _ => h⟩
        go_wp2_with fail
        refine wp_region_keep (by kernel_rfl) (by kernel_rfl) ?_
        repeat (go_big_quiet_step (fail))
        refine wpQuiet_mid rfl 23 _ rfl g (off + 32) rfl (b.map u8) _ (fun w' hw' => range_kept (unhide RB6) hw' (by simp)) Try.underlying23 rfl (unhide SB) ?_
        simp only [Act.put, List.setIfInBounds_toArray, List.set_cons_succ, List.set_cons_zero]
        repeat (go_big_quiet_step (fail))
        refine wpQuiet_mid rfl 23 _ rfl g (off + 64) rfl (c.map u8) _ (fun w' hw' => range_kept (unhide RC6) hw' (by simp)) Try.underlying23 rfl (unhide SC) ?_
        simp only [Act.put, List.setIfInBounds_toArray, List.set_cons_succ, List.set_cons_zero]
        go_big_quiet_want
        go_big_quiet_op
        apply Exists.intro
        refine ⟨fun w' hw' => ?_, ?_⟩
        · exact unhide C7 w' hw'
        go_big_quiet_on
        repeat (go_big_quiet_step (fail))
        refine wpQuiet_nil ?_
        intro w7 hw7
        have HK7 := hide ((unhide HK6).trans hw7 (by simp))
        have RA7 := hide (range_kept (unhide RA6) hw7 (by simp))
        have RB7 := hide (range_kept (unhide RB6) hw7 (by simp))
        have RC7 := hide (range_kept (unhide RC6) hw7 (by simp))
        clear hne hw7 C7 RA6 RB6 RC6 HK6
        have C8 := hide (fun w' (hw' : Kept [] w7 w') => (common_any k a c w' hz hA hC).mono (fun e w2 (h2 : _ ∧ _) => (⟨h2.1, hw'.trans h2.2 (by simp)⟩ : _ ∧ Kept [] w7 w2)))
        rw [x3, e3] at C8
        have hne : ∀ p : Prop, (∀ w', Kept [] w7 w' → p) = p := fun p => propext ⟨fun h => h w7 (Kept.refl [] w7), fun h _ _ => h⟩
        go_wp2_with fail
        refine wp_region_keep (by kernel_rfl) (by kernel_rfl) ?_
        repeat (go_big_quiet_step (fail))
        refine wpQuiet_mid rfl 23 _ rfl g off rfl (a.map u8) _ (fun w' hw' => range_kept (unhide RA7) hw' (by simp)) Try.underlying23 rfl (unhide SA) ?_
        simp only [Act.put, List.setIfInBounds_toArray, List.set_cons_succ, List.set_cons_zero]
        repeat (go_big_quiet_step (fail))
        refine wpQuiet_mid rfl 23 _ rfl g (off + 64) rfl (c.map u8) _ (fun w' hw' => range_kept (unhide RC7) hw' (by simp)) Try.underlying23 rfl (unhide SC) ?_
        simp only [Act.put, List.setIfInBounds_toArray, List.set_cons_succ, List.set_cons_zero]
        go_big_quiet_want
        go_big_quiet_op
        apply Exists.intro
        refine ⟨fun w' hw' => ?_, ?_⟩
        · exact unhide C8 w' hw'
        go_big_quiet_on
        repeat (go_big_quiet_step (fail))
        refine wpQuiet_nil ?_
        intro w8 hw8
        have HK8 := hide ((unhide HK7).trans hw8 (by simp))
        have RA8 := hide (range_kept (unhide RA7) hw8 (by simp))
        have RB8 := hide (range_kept (unhide RB7) hw8 (by simp))
        have RC8 := hide (range_kept (unhide RC7) hw8 (by simp))
        clear hne hw8 C8 RA7 RB7 RC7 HK7
        have C9 := hide (fun w' (hw' : Kept [] w8 w') => (order_any k a b w' hz hA hB).mono (fun e w2 (h2 : _ ∧ _) => (⟨h2.1, hw'.trans h2.2 (by simp)⟩ : _ ∧ Kept [] w8 w2)))
        rw [y1, e1] at C9
        have hne : ∀ p : Prop, (∀ w', Kept [] w8 w' → p) = p := fun p => propext ⟨fun h => h w8 (Kept.refl [] w8), fun h _ _ => h⟩
        go_wp2_with fail
        refine wp_region_keep (by kernel_rfl) (by kernel_rfl) ?_
        repeat (go_big_quiet_step (fail))
        refine wpQuiet_mid rfl 23 _ rfl g off rfl (a.map u8) _ (fun w' hw' => range_kept (unhide RA8) hw' (by simp)) Try.underlying23 rfl (unhide SA) ?_
        simp only [Act.put, List.setIfInBounds_toArray, List.set_cons_succ, List.set_cons_zero]
        repeat (go_big_quiet_step (fail))
        refine wpQuiet_mid rfl 23 _ rfl g (off + 32) rfl (b.map u8) _ (fun w' hw' => range_kept (unhide RB8) hw' (by simp)) Try.underlying23 rfl (unhide SB) ?_
        simp only [Act.put, List.setIfInBounds_toArray, List.set_cons_succ, List.set_cons_zero]
        go_big_quiet_want
        go_big_quiet_op
        apply Exists.intro
        refine ⟨fun w' hw' => ?_, ?_⟩
        · exact unhide C9 w' hw'
        go_big_quiet_on
        repeat (go_big_quiet_step (fail))
        refine wpQuiet_nil ?_
        intro w9 hw9
        have HK9 := hide ((unhide HK8).trans hw9 (by simp))
        have RA9 := hide (range_kept (unhide RA8) hw9 (by simp))
        have RB9 := hide (range_kept (unhide RB8) hw9 (by simp))
        have RC9 := hide (range_kept (unhide RC8) hw9 (by simp))
        clear hne hw9 C9 RA8 RB8 RC8 HK8
        have C10 := hide (fun w' (hw' : Kept [] w9 w') => (order_any k b c w' hz hB hC).mono (fun e w2 (h2 : _ ∧ _) => (⟨h2.1, hw'.trans h2.2 (by simp)⟩ : _ ∧ Kept [] w9 w2)))
        rw [y2, e2] at C10
        have hne : ∀ p : Prop, (∀ w', Kept [] w9 w' → p) = p := fun p => propext ⟨fun h => h w9 (Kept.refl [] w9), fun h _ _ => h⟩
        go_wp2_with fail
        refine wp_region_keep (by kernel_rfl) (by kernel_rfl) ?_
        repeat (go_big_quiet_step (fail))
        refine wpQuiet_mid rfl 23 _ rfl g (off + 32) rfl (b.map u8) _ (fun w' hw' => range_kept (unhide RB9) hw' (by simp)) Try.underlying23 rfl (unhide SB) ?_
        simp only [Act.put, List.setIfInBounds_toArray, List.set_cons_succ, List.set_cons_zero]
        repeat (go_big_quiet_step (fail))
        refine wpQuiet_mid rfl 23 _ rfl g (off + 64) rfl (c.map u8) _ (fun w' hw' => range_kept (unhide RC9) hw' (by simp)) Try.underlying23 rfl (unhide SC) ?_
        simp only [Act.put, List.setIfInBounds_toArray, List.set_cons_succ, List.set_cons_zero]
        go_big_quiet_want
        go_big_quiet_op
        apply Exists.intro
        refine ⟨fun w' hw' => ?_, ?_⟩
        · exact unhide C10 w' hw'
        go_big_quiet_on
        repeat (go_big_quiet_step (fail))
        refine wpQuiet_nil ?_
        intro w10 hw10
        have HK10 := hide ((unhide HK9).trans hw10 (by simp))
        have RA10 := hide (range_kept (unhide RA9) hw10 (by simp))
        have RB10 := hide (range_kept (unhide RB9) hw10 (by simp))
        have RC10 := hide (range_kept (unhide RC9) hw10 (by simp))
        clear hne hw10 C10 RA9 RB9 RC9 HK9
        have C11 := hide (fun w' (hw' : Kept [] w10 w') => (order_any k a c w' hz hA hC).mono (fun e w2 (h2 : _ ∧ _) => (⟨h2.1, hw'.trans h2.2 (by simp)⟩ : _ ∧ Kept [] w10 w2)))
        rw [y3, e3] at C11
        have hne : ∀ p : Prop, (∀ w', Kept [] w10 w' → p) = p := fun p => propext ⟨fun h => h w10 (Kept.refl [] w10), fun h _ _ => h⟩
        go_wp2_with fail
        refine wp_region_keep (by kernel_rfl) (by kernel_rfl) ?_
        repeat (go_big_quiet_step (fail))
        refine wpQuiet_mid rfl 23 _ rfl g off rfl (a.map u8) _ (fun w' hw' => range_kept (unhide RA10) hw' (by simp)) Try.underlying23 rfl (unhide SA) ?_
        simp only [Act.put, List.setIfInBounds_toArray, List.set_cons_succ, List.set_cons_zero]
        repeat (go_big_quiet_step (fail))
        refine wpQuiet_mid rfl 23 _ rfl g (off + 64) rfl (c.map u8) _ (fun w' hw' => range_kept (unhide RC10) hw' (by simp)) Try.underlying23 rfl (unhide SC) ?_
        simp only [Act.put, List.setIfInBounds_toArray, List.set_cons_succ, List.set_cons_zero]
        go_big_quiet_want
        go_big_quiet_op
        apply Exists.intro
        refine ⟨fun w' hw' => ?_, ?_⟩
        · exact unhide C11 w' hw'
        go_big_quiet_on
        repeat (go_big_quiet_step (fail))
        refine wpQuiet_nil ?_
        intro w11 hw11
        have HK11 := hide ((unhide HK10).trans hw11 (by simp))
        have RA11 := hide (range_kept (unhide RA10) hw11 (by simp))
        have RB11 := hide (range_kept (unhide RB10) hw11 (by simp))
        have RC11 := hide (range_kept (unhide RC10) hw11 (by simp))
        clear hne hw11 C11 RA10 RB10 RC10 HK10
        clear x1 x2 x3 y1 y2 y3 e1 e2 e3
        generalize comL a b (2 * k) 0 = x at *
        generalize comL b c (2 * k) 0 = y at *
        generalize comL a c (2 * k) 0 = t at *
        generalize ordL a b = p at *
        generalize ordL b c = q at *
        generalize ordL a c = r at *
        have u1 := unhide U1
        have u2 := unhide U2
        have u3 := unhide U3
        have u7 : min (x : Int) y ≤ t := by omega
        have u8' : min (y : Int) t ≤ x := by omega
        have u9 : min (x : Int) t ≤ y := by omega
        have m1 : decide ((t : Int) < min (x : Int) y) = false := decide_eq_false (by omega)
        have m2 : decide ((x : Int) < min (y : Int) t) = false := decide_eq_false (by omega)
        have m3 : decide ((y : Int) < min (x : Int) t) = false := decide_eq_false (by omega)
        by_cases hp : p ≤ 0
        · have dp : decide (p ≤ 0) = true := decide_eq_true hp
          by_cases hq : q ≤ 0
          · have dq : decide (q ≤ 0) = true := decide_eq_true hq
            have hr := unhide U4 hp hq
            have h5 := unhide U5 hp hq
            have h6 := unhide U6 hp hq
            have dr : decide (r ≤ 0) = true := decide_eq_true hr
            have d5 : decide ((t : Int) ≤ x) = true := decide_eq_true (by omega)
            have d6 : decide ((t : Int) ≤ y) = true := decide_eq_true (by omega)
            clear U1 U2 U3 U4 U5 U6
            go_wp2
            all_goals (first | (exfalso; omega) | (go_ret; exact ⟨rfl, (unhide HK11).below (Nat.le_refl _) (by simp)⟩))
          · have dq : decide (q ≤ 0) = false := decide_eq_false hq
            clear U1 U2 U3 U4 U5 U6
            go_wp2
            all_goals (first | (exfalso; omega) | (go_ret; exact ⟨rfl, (unhide HK11).below (Nat.le_refl _) (by simp)⟩))
        · have dp : decide (p ≤ 0) = false := decide_eq_false hp
          clear U1 U2 U3 U4 U5 U6
          go_wp2
          all_goals (first | (exfalso; omega) | (go_ret; exact ⟨rfl, (unhide HK11).below (Nat.le_refl _) (by simp)⟩))
end Go.Proofs.Ytclgblilgpfllaa
