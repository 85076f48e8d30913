import Derived.Test.YtckkalmhekfnhabGreatDoorEDecB
import Derived.Test.YtckkalmhekfnhabGreatDoorQMid
namespace Go.Proofs.YtckkalmhekfnhabGreatDoor
open Go.RowKit Go.BigFrame
set_option linter.unusedVariables false
set_option linter.unusedSimpArgs false

theorem take_same {α : Type} (a b : List α) (i : Nat) (ha : i < a.length) (hb : i < b.length) (h : a.take i = b.take i) (x : a[i] = b[i]) : a.take (i + 1) = b.take (i + 1) := by
  rw [List.take_succ_eq_append_getElem ha, List.take_succ_eq_append_getElem hb, h, x]

set_option maxRecDepth 100000 in
set_option maxHeartbeats 1000000 in
theorem sameEntries_any (u v : Value) (es fs : List En) (w : World) (hu : RdN w u es) (hv : RdN w v fs) :
    Calls Tryz.prog 44 #[u, v] w fun r w' => r = .returned (.bool (decide (es = fs))) ∧ Kept [] w w' := by
  obtain ⟨ao, len, cap, kv, vv, rfl, h1, h2, h3, h4, h5⟩ := hu
  obtain ⟨ao', len', cap', kv', vv', rfl, g1, g2, g3, g4, g5⟩ := hv
  have H4 := hide h4
  have H5 := hide h5
  have G4 := hide g4
  have G5 := hide g5
  clear h4 h5 g4 g5
  subst h1
  subst g1
  go_enter Tryz.func44, Tryz.ntmps44
  by_cases hl : es.length = fs.length
  · have hb : ((es.length : Int) != (fs.length : Int)) = false := by rw [hl]; simp
    have HL := hide hl
    clear hl
    go_wp2_with fail
    go_loopw [5] (fun t12 wr => ∃ (i : Nat), i ≤ es.length ∧ t12 = .int .i64 i ∧ Hid (es.take i = fs.take i) ∧ Hid (Kept [] w wr)) (fun t _ => es.length - (intOf t).toNat)
    case atStart => exact ⟨0, Nat.zero_le _, rfl, hide (by simp), hide (Kept.refl _ _)⟩
    case round =>
      obtain ⟨i, hi, rfl, HA, HK⟩ := hrel
      by_cases hlt : i < es.length
      · have hlt' : (i : Int) < es.length := by omega
        have hle : i < fs.length := by rw [← unhide HL]; exact hlt
        have hle' : (i : Int) < fs.length := by omega
        obtain ⟨b, o, rfl, hcell⟩ := unhide H5 (by omega)
        obtain ⟨b', o', rfl, gcell⟩ := unhide G5 (by omega)
        have HRG := hide (rangeE_kept (hcell i hlt) (unhide HK) (by simp))
        have GRG := hide (rangeE_kept (gcell i hle) (unhide HK) (by simp))
        have HO := hide ((unhide H4 i hlt).old (unhide HK))
        have GO := hide ((unhide G4 i hle).old (unhide HK))
        have HN := hide (fun (h : es[i] = fs[i]) => take_same es fs i hlt hle (unhide HA) h)
        have HM := hide (fun (h : ¬ es[i] = fs[i]) => decide_eq_false (fun e => h (by simp [e]) : ¬ es = fs))
        clear hcell gcell
        generalize kv i = k1 at HRG HO
        generalize vv i = v1 at HRG HO
        generalize kv' i = k2 at GRG GO
        generalize vv' i = v2 at GRG GO
        generalize es[i] = x at HRG HO HN HM
        generalize fs[i] = y at GRG GO HN HM
        have HS1 := hide (by rw [Array.length_toList, enC_size]; exact Tryz.size_entry : (Tryz.prog.info? 44).map (·.size) = some (enC x k1 v1).toList.length)
        have HS2 := hide (by rw [Array.length_toList, enC_size]; exact Tryz.size_entry : (Tryz.prog.info? 44).map (·.size) = some (enC y k2 v2).toList.length)
        have HC1 := hide (fun w' (hw' : Kept [] wr w') => (sameEntry_any x y k1 v1 k2 v2 w' ((unhide HO).old hw') ((unhide GO).old hw')).mono (fun e w2 (h2 : _ ∧ _) => (⟨h2.1, hw'.trans h2.2 (by simp)⟩ : _ ∧ Kept [] wr w2)))
        by_cases hdd : x = y
        · rw [decide_eq_true hdd] at HC1
          have HDD := hide hdd
          clear hdd
          have hne : ∀ p : Prop, (∀ w', Kept [] wr w' → p) = p := fun p => propext ⟨fun h => h wr (Kept.refl [] wr), fun h _ _ => h⟩
          go_wp2_with fail
          refine wp_region_keep (by kernel_rfl) (by kernel_rfl) ?_
          iterate 3 (go_big_quiet_step (fail))
          refine wpQuiet_mid rfl 44 _ rfl b (o + i * 3) rfl (enC x k1 v1).toList _ (fun w' hw' => rangeE_kept (unhide HRG) hw' (by simp)) Tryz.underlying44 rfl (unhide HS1) ?_
          simp only [Act.put, List.setIfInBounds_toArray, List.set_cons_succ, List.set_cons_zero]
          iterate 3 (go_big_quiet_step (fail))
          refine wpQuiet_mid rfl 44 _ rfl b' (o' + i * 3) rfl (enC y k2 v2).toList _ (fun w' hw' => rangeE_kept (unhide GRG) hw' (by simp)) Tryz.underlying44 rfl (unhide HS2) ?_
          simp only [Act.put, List.setIfInBounds_toArray, List.set_cons_succ, List.set_cons_zero]
          go_big_quiet_want
          go_big_quiet_op
          apply Exists.intro
          refine ⟨fun w' hw' => ?_, ?_⟩
          · exact unhide HC1 w' hw'
          go_big_quiet_on
          repeat (go_big_quiet_step (fail))
          refine wpQuiet_nil ?_
          intro w6 hw6
          have HK6 := hide ((unhide HK).trans hw6 (by simp))
          clear hw6 hne
          go_wp2
          refine ⟨⟨i + 1, by omega, by go_num, hide (unhide HN (unhide HDD)), HK6⟩, ?_⟩
          simp [intOf]; omega
        · rw [decide_eq_false hdd] at HC1
          have HDD := hide hdd
          clear hdd
          have hne : ∀ p : Prop, (∀ w', Kept [] wr w' → p) = p := fun p => propext ⟨fun h => h wr (Kept.refl [] wr), fun h _ _ => h⟩
          go_wp2_with fail
          refine wp_region_keep (by kernel_rfl) (by kernel_rfl) ?_
          iterate 3 (go_big_quiet_step (fail))
          refine wpQuiet_mid rfl 44 _ rfl b (o + i * 3) rfl (enC x k1 v1).toList _ (fun w' hw' => rangeE_kept (unhide HRG) hw' (by simp)) Tryz.underlying44 rfl (unhide HS1) ?_
          simp only [Act.put, List.setIfInBounds_toArray, List.set_cons_succ, List.set_cons_zero]
          iterate 3 (go_big_quiet_step (fail))
          refine wpQuiet_mid rfl 44 _ rfl b' (o' + i * 3) rfl (enC y k2 v2).toList _ (fun w' hw' => rangeE_kept (unhide GRG) hw' (by simp)) Tryz.underlying44 rfl (unhide HS2) ?_
          simp only [Act.put, List.setIfInBounds_toArray, List.set_cons_succ, List.set_cons_zero]
          go_big_quiet_want
          go_big_quiet_op
          apply Exists.intro
          refine ⟨fun w' hw' => ?_, ?_⟩
          · exact unhide HC1 w' hw'
          go_big_quiet_on
          repeat (go_big_quiet_step (fail))
          refine wpQuiet_nil ?_
          intro w6 hw6
          have HK6 := hide ((unhide HK).trans hw6 (by simp))
          clear hw6 hne
          go_wp2
          go_ret
          exact ⟨by rw [unhide HM (unhide HDD)]; rfl, unhide HK6⟩
      · have hlt' : ¬ (i : Int) < es.length := by omega
        have hie : i = es.length := by omega
        subst hie
        have HE := hide (decide_eq_true (by have h9 := unhide HA; rw [List.take_length, unhide HL, List.take_length] at h9; exact h9 : es = fs))
        go_wp2
        go_ret
        exact ⟨by rw [unhide HE]; rfl, unhide HK⟩
  · have hb : ((es.length : Int) != (fs.length : Int)) = true := by rw [bne_iff_ne]; omega
    have HE := hide (decide_eq_false (fun e => hl (by rw [e]) : ¬ es = fs))
    clear hl
    go_wp2
    go_ret
    exact ⟨by rw [unhide HE]; rfl, Kept.refl _ _⟩

set_option maxRecDepth 100000 in
set_option maxHeartbeats 1000000 in
theorem sameBatch_any (f g : Nat) (u v : Value) (es fs : List En) (w : World) (hu : RdN w u es) (hv : RdN w v fs) :
    Calls Tryz.prog 18 #[.agg #[.int .u64 f, u], .agg #[.int .u64 g, v]] w fun r w' => r = .returned (.bool (decide (f = g) && decide (es = fs))) ∧ Kept [] w w' := by
  have HU := hide hu
  have HV := hide hv
  obtain ⟨X, hX⟩ : ∃ X, decide (es = fs) = X := ⟨_, rfl⟩
  rw [hX]
  have HX := hide hX
  clear hX
  obtain ⟨a1, m1, c1, _, _, rfl, _⟩ := hu
  obtain ⟨a2, m2, c2, _, _, rfl, _⟩ := hv
  have HK0 := hide (((Kept.refl [] w).alloc (.cells #[.int .u64 (f : Int), .slice a1 m1 c1] 37)).alloc (.cells #[.int .u64 (g : Int), .slice a2 m2 c2] 37))
  go_enter Tryz.func18, Tryz.ntmps18
  by_cases hk : f = g
  · have e1 : ((f : Int) == (g : Int)) = true := by rw [hk]; simp
    rw [decide_eq_true hk]
    have HKE := hide hk
    clear hk
    go_wp2_with fail
    refine Calls.mono (sameEntries_any _ _ es fs _ ((unhide HU).old (unhide HK0)) ((unhide HV).old (unhide HK0))) ?_
    rintro r w1 ⟨rfl, k1⟩
    rw [unhide HX]
    have HK1 := hide ((unhide HK0).trans k1 (by simp))
    clear k1
    go_wp2
    go_ret
    exact ⟨by simp, unhide HK1⟩
  · have e1 : ((f : Int) == (g : Int)) = false := by rw [beq_eq_false_iff_ne]; omega
    rw [decide_eq_false hk]
    clear hk
    go_wp2
    go_ret
    exact ⟨by simp, unhide HK0⟩
end Go.Proofs.YtckkalmhekfnhabGreatDoor
