import Derived.Test.YtbbjbpjpejekgaaDoorTopD
import Derived.Deep.Cut
import Derived.Test.YtbbjbpjpejekgaaDoorBase
import Derived.Test.YtbbjbpjpejekgaaDoorCards
import Derived.Test.YtbbjbpjpejekgaaDoorTie
import Derived.ProofKit
import Derived.OpenShut
import Derived.Deep.Slices
import Derived.SizedLaws
import Derived.Test.YtbbjbpjpejekgaaDoorRowz
import Derived.Test.YtbbjbpjpejekgaaDoorTopB
import Derived.Deep.SlicePairs
namespace Go.Proofs.YtbbjbpjpejekgaaDoor
open Go.RowKit Go.BigFrame
set_option linter.unusedVariables false
set_option linter.unusedSimpArgs false

theorem ndL_eq {k : Nat} {a b : OpD} (h : a.kd = b.kd) (h5 : a.kd ≤ 5) : decide (ndL k a b) = decide (sameD (tp k a) (tp k b)) :=
  decide_eq_decide.2 (by unfold ndL; rw [if_pos h, if_pos h5])
theorem ndL_six {k : Nat} {a b : OpD} (h : a.kd = b.kd) (h6 : 6 ≤ a.kd) : decide (ndL k a b) = true :=
  decide_eq_true (by unfold ndL; rw [if_pos h, if_neg (by omega)]; trivial)
theorem ndL_ne {k : Nat} {a b : OpD} (h : ¬ a.kd = b.kd) : decide (ndL k a b) = decide (6 < a.kd ∧ 6 < b.kd) :=
  decide_eq_decide.2 (by unfold ndL; rw [if_neg h])
theorem RdD.big {w : World} {v : Value} {ds : List (List Nat)} (h : RdD w v ds) : ds.length ≤ 9223372036854775807 := by
  obtain ⟨_, len, cap, _, h1, h2, h3, _⟩ := h
  omega
theorem kids_end {ka kb : List (List Nat)} {i : Nat} (h : ka.take i = kb.take i) (hl : ka.length = kb.length) (hi : ¬ (i < ka.length ∧ i < kb.length)) : ka = kb := by
  have h1 : ka.take i = ka := List.take_of_length_le (by omega)
  have h2 : kb.take i = kb := List.take_of_length_le (by omega)
  rw [h1, h2] at h; exact h

set_option maxRecDepth 100000 in
set_option maxHeartbeats 4000000 in
theorem talike_any (k : Nat) (a b : OpD) (pa ka da pb kb db : Value) (w : World) (ha : OkD w a pa ka da) (hb : OkD w b pb kb db) (h1 : 1 ≤ k) (hk : k ≤ 32) (k0 : 0 ≤ a.kd ∧ a.kd < 256) (k1 : 0 ≤ b.kd ∧ b.kd < 256) :
    Calls Tryd.prog 23 #[.int .i64 k, .agg (ndC a pa ka da).toArray, .agg (ndC b pb kb db).toArray] w fun e w' => e = .returned (.bool (decide (ndL k a b))) ∧ Kept [] w w' := by
  have HCA := hide (by simp [ndC, rootC, ha.l.1, ha.r.1, ha.lg.1, ha.mp.1] : (ndC a pa ka da).length = 134)
  have HCB := hide (by simp [ndC, rootC, hb.l.1, hb.r.1, hb.lg.1, hb.mp.1] : (ndC b pb kb db).length = 134)
  have HKA := hide (fun W (k9 : Kept [] w W) => kids_any k a pa ka da W (ha.old k9) h1 hk)
  have HKB := hide (fun W (k9 : Kept [] w W) => kids_any k b pb kb db W (hb.old k9) h1 hk)
  obtain ⟨A, hA⟩ : ∃ C, ndC a pa ka da = C := ⟨_, rfl⟩
  obtain ⟨B, hB⟩ : ∃ C, ndC b pb kb db = C := ⟨_, rfl⟩
  have HGA := (((Kept.refl [] (w.alloc (.cells A.toArray 56))).alloc (.cells B.toArray 56)).heap (heap_alloc_new w (.cells A.toArray 56)) (by simp))
  have HGB := (alloc_at w (.cells A.toArray 56) (.cells B.toArray 56))
  have HK0 := hide (((Kept.refl [] w).alloc (.cells A.toArray 56)).alloc (.cells B.toArray 56))
  have hx := nd_cells (o := a) (pv := pa) (kv := ka) (dv := da) (by rw [hA]; exact HGA) ha.l.1 ha.r.1 ha.lg.1
  have hy := nd_cells (o := b) (pv := pb) (kv := kb) (dv := db) (by rw [hB]; exact HGB) hb.l.1 hb.r.1 hb.lg.1
  rw [hA] at HCA HKA ⊢
  rw [hB] at HCB HKB ⊢
  have HAO := hide (ha.old (unhide HK0))
  have HBO := hide (hb.old (unhide HK0))
  have NA := hide HGA
  have NB := hide HGB
  obtain ⟨W0, hW0⟩ : ∃ W, (w.alloc (.cells A.toArray 56)).alloc (.cells B.toArray 56) = W := ⟨_, rfl⟩
  rw [hW0] at hx hy HK0 HAO HBO NA NB
  have HW0 := hide hW0
  clear hA hB HGA HGB ha hb hW0
  obtain ⟨⟨c0, c1⟩, r2, r34, ⟨c66, c67, c68⟩, r69, c69, r70, r102⟩ := hx
  obtain ⟨⟨d0, d1⟩, s2, s34, ⟨d66, d67, d68⟩, s69, d69, s70, s102⟩ := hy
  have PA := hide (unhide HAO).p'
  have PB := hide (unhide HBO).p'
  have R2 := hide r2
  have R34 := hide r34
  have R70 := hide r70
  have R102 := hide r102
  have S2 := hide s2
  have S34 := hide s34
  have S70 := hide s70
  have S102 := hide s102
  have C1 := hide c1
  have C66 := hide c66
  have C67 := hide c67
  have C69 := hide c69
  have D1 := hide d1
  have D66 := hide d66
  have D67 := hide d67
  have D69 := hide d69
  clear r2 r34 r69 r70 r102 s2 s34 s69 s70 s102 c1 c66 c67 c68 c69 d1 d66 d67 d68 d69
  have ZLa := hide (by rw [List.length_map, (unhide PA).l.1]; exact Tryd.size_dig : (Tryd.prog.info? 26).map (·.size) = some (a.l.map u8).length)
  have TLa := hide (fun W (kk : Kept [] W0 W) => (tcut_any k a.l W h1 hk (unhide PA).l.1 (unhide PA).l.2).mono (fun e w2 (h2 : _ ∧ _) => (⟨h2.1, kk.trans h2.2 (by simp)⟩ : _ ∧ Kept [] W0 w2)))
  have DLa := hide (cut_dg hk (unhide PA).l)
  have ZRa := hide (by rw [List.length_map, (unhide PA).r.1]; exact Tryd.size_dig : (Tryd.prog.info? 26).map (·.size) = some (a.r.map u8).length)
  have TRa := hide (fun W (kk : Kept [] W0 W) => (tcut_any k a.r W h1 hk (unhide PA).r.1 (unhide PA).r.2).mono (fun e w2 (h2 : _ ∧ _) => (⟨h2.1, kk.trans h2.2 (by simp)⟩ : _ ∧ Kept [] W0 w2)))
  have DRa := hide (cut_dg hk (unhide PA).r)
  have ZGa := hide (by rw [List.length_map, (unhide PA).lg.1]; exact Tryd.size_dig : (Tryd.prog.info? 26).map (·.size) = some (a.lg.map u8).length)
  have TGa := hide (fun W (kk : Kept [] W0 W) => (tcut_any k a.lg W h1 hk (unhide PA).lg.1 (unhide PA).lg.2).mono (fun e w2 (h2 : _ ∧ _) => (⟨h2.1, kk.trans h2.2 (by simp)⟩ : _ ∧ Kept [] W0 w2)))
  have DGa := hide (cut_dg hk (unhide PA).lg)
  have ZMa := hide (by rw [List.length_map, (unhide PA).mp.1]; exact Tryd.size_dig : (Tryd.prog.info? 26).map (·.size) = some (a.mp.map u8).length)
  have TMa := hide (fun W (kk : Kept [] W0 W) => (tcut_any k a.mp W h1 hk (unhide PA).mp.1 (unhide PA).mp.2).mono (fun e w2 (h2 : _ ∧ _) => (⟨h2.1, kk.trans h2.2 (by simp)⟩ : _ ∧ Kept [] W0 w2)))
  have DMa := hide (cut_dg hk (unhide PA).mp)
  have ZLb := hide (by rw [List.length_map, (unhide PB).l.1]; exact Tryd.size_dig : (Tryd.prog.info? 26).map (·.size) = some (b.l.map u8).length)
  have TLb := hide (fun W (kk : Kept [] W0 W) => (tcut_any k b.l W h1 hk (unhide PB).l.1 (unhide PB).l.2).mono (fun e w2 (h2 : _ ∧ _) => (⟨h2.1, kk.trans h2.2 (by simp)⟩ : _ ∧ Kept [] W0 w2)))
  have DLb := hide (cut_dg hk (unhide PB).l)
  have ZRb := hide (by rw [List.length_map, (unhide PB).r.1]; exact Tryd.size_dig : (Tryd.prog.info? 26).map (·.size) = some (b.r.map u8).length)
  have TRb := hide (fun W (kk : Kept [] W0 W) => (tcut_any k b.r W h1 hk (unhide PB).r.1 (unhide PB).r.2).mono (fun e w2 (h2 : _ ∧ _) => (⟨h2.1, kk.trans h2.2 (by simp)⟩ : _ ∧ Kept [] W0 w2)))
  have DRb := hide (cut_dg hk (unhide PB).r)
  have ZGb := hide (by rw [List.length_map, (unhide PB).lg.1]; exact Tryd.size_dig : (Tryd.prog.info? 26).map (·.size) = some (b.lg.map u8).length)
  have TGb := hide (fun W (kk : Kept [] W0 W) => (tcut_any k b.lg W h1 hk (unhide PB).lg.1 (unhide PB).lg.2).mono (fun e w2 (h2 : _ ∧ _) => (⟨h2.1, kk.trans h2.2 (by simp)⟩ : _ ∧ Kept [] W0 w2)))
  have DGb := hide (cut_dg hk (unhide PB).lg)
  have ZMb := hide (by rw [List.length_map, (unhide PB).mp.1]; exact Tryd.size_dig : (Tryd.prog.info? 26).map (·.size) = some (b.mp.map u8).length)
  have TMb := hide (fun W (kk : Kept [] W0 W) => (tcut_any k b.mp W h1 hk (unhide PB).mp.1 (unhide PB).mp.2).mono (fun e w2 (h2 : _ ∧ _) => (⟨h2.1, kk.trans h2.2 (by simp)⟩ : _ ∧ Kept [] W0 w2)))
  have DMb := hide (cut_dg hk (unhide PB).mp)
  have HSA := hide (by rw [unhide HCA]; exact Tryd.size_node : (Tryd.prog.info? 56).map (·.size) = some A.length)
  have HSB := hide (by rw [unhide HCB]; exact Tryd.size_node : (Tryd.prog.info? 56).map (·.size) = some B.length)
  obtain ⟨D, hD⟩ : ∃ D, decide (ndL k a b) = D := ⟨_, rfl⟩
  have HD := hide hD
  rw [hD]
  clear hD
  go_enter Tryd.func23, Tryd.ntmps23
  by_cases hne : a.kd = b.kd
  · have HNE := hide hne
    rw [← hne] at d0
    clear hne k1
    rcases (by omega : (a.kd = 0 ∨ a.kd = 2) ∨ a.kd = 1 ∨ a.kd = 3 ∨ a.kd = 4 ∨ a.kd = 5 ∨ 6 ≤ a.kd) with hkd | hkd | hkd | hkd | hkd | hkd
    · have HD2 := hide (by rw [← unhide HD]; rw [ndL_eq (unhide HNE) (by omega)]; rcases hkd with h9 | h9 <;> simp [sameD, tp, h9] : D = decide (a.p = b.p))
      have q1 := unhide C1
      have q2 := unhide D1
      rcases hkd with hkd | hkd <;>
      (rw [hkd] at c0 d0
       clear hkd k0
       go_wp2_with (rw [unhide HW0])
       refine Calls.mono (tsame_any _ _ a.p b.p _ (unhide HAO).p (unhide HBO).p) ?_
       rintro e w1 ⟨rfl, rfl⟩
       rw [← unhide HD2]
       go_wp2
       go_ret
       exact ⟨rfl, unhide HK0⟩)
    · have HD2 := hide (by rw [← unhide HD]; rw [ndL_eq (unhide HNE) (by omega)]; simp [sameD, tp, hkd] : D = (decide (cutL k a.l = cutL k b.l) && decide (cutL k a.r = cutL k b.r)))
      rw [hkd] at c0 d0
      clear hkd k0
      generalize cutL k a.l = X at TLa DLa HD2
      generalize cutL k b.l = Y at TLb DLb HD2
      generalize cutL k a.r = U at TRa DRa HD2
      generalize cutL k b.r = V at TRb DRb HD2
      have HQ1 := hide (fun W => dig_eq W X Y (unhide DLa).1 (unhide DLb).1)
      have HQ2 := hide (fun W => dig_eq W U V (unhide DRa).1 (unhide DRb).1)
      generalize decide (X = Y) = e1 at HQ1 HD2
      generalize decide (U = V) = e2 at HQ2 HD2
      go_wp2_with (rw [unhide HW0])
      cases e1
      · have hnp : ∀ p : Prop, (∀ w', Kept [] W0 w' → p) = p := fun p => propext ⟨fun h => h W0 (Kept.refl [] W0), fun h _ _ => h⟩
        refine wp_region_keep (by kernel_rfl) (by kernel_rfl) ?_
        iterate 2 (go_big_quiet_step (fail))
        refine wpQuiet_mid rfl 26 (.tmp 36) rfl w.heap.size 2 rfl (a.l.map u8) _ (fun w' hw' => range_kept (unhide R2) hw' (by simp)) Tryd.underlying26 rfl (unhide ZLa) ?_
        simp only [Act.put, List.setIfInBounds_toArray, List.set_cons_succ, List.set_cons_zero]
        go_big_quiet_want
        go_big_quiet_op
        apply Exists.intro
        refine ⟨fun w' hw' => ?_, ?_⟩
        · exact unhide TLa w' hw'
        go_big_quiet_on
        iterate 2 (go_big_quiet_step (fail))
        refine wpQuiet_mid rfl 26 (.tmp 40) rfl (w.heap.size + 1) 2 rfl (b.l.map u8) _ (fun w' hw' => range_kept (unhide S2) hw' (by simp)) Tryd.underlying26 rfl (unhide ZLb) ?_
        simp only [Act.put, List.setIfInBounds_toArray, List.set_cons_succ, List.set_cons_zero]
        go_big_quiet_want
        go_big_quiet_op
        apply Exists.intro
        refine ⟨fun w' hw' => ?_, ?_⟩
        · exact unhide TLb w' hw'
        go_big_quiet_on
        refine wpQuiet_val rfl (.bool false) (fun w' _ => run_eql 26 _ _ _ rfl (brow X) (brow Y) rfl rfl w' false (by kernel_rfl) (unhide HQ1 w')) ?_
        simp only [Act.put, List.setIfInBounds_toArray, List.set_cons_succ, List.set_cons_zero]
        iterate 12 (go_big_quiet_step (fail))
        refine wpQuiet_nil ?_
        intro w6 hw6
        have HK6 := hide ((unhide HK0).trans hw6 (by simp))
        clear hw6 hnp
        go_wp2
        go_ret
        exact ⟨by rw [unhide HD2]; rfl, unhide HK6⟩
      · cases e2 <;> skip
        · have hnp : ∀ p : Prop, (∀ w', Kept [] W0 w' → p) = p := fun p => propext ⟨fun h => h W0 (Kept.refl [] W0), fun h _ _ => h⟩
          refine wp_region_keep (by kernel_rfl) (by kernel_rfl) ?_
          iterate 2 (go_big_quiet_step (fail))
          refine wpQuiet_mid rfl 26 (.tmp 36) rfl w.heap.size 2 rfl (a.l.map u8) _ (fun w' hw' => range_kept (unhide R2) hw' (by simp)) Tryd.underlying26 rfl (unhide ZLa) ?_
          simp only [Act.put, List.setIfInBounds_toArray, List.set_cons_succ, List.set_cons_zero]
          go_big_quiet_want
          go_big_quiet_op
          apply Exists.intro
          refine ⟨fun w' hw' => ?_, ?_⟩
          · exact unhide TLa w' hw'
          go_big_quiet_on
          iterate 2 (go_big_quiet_step (fail))
          refine wpQuiet_mid rfl 26 (.tmp 40) rfl (w.heap.size + 1) 2 rfl (b.l.map u8) _ (fun w' hw' => range_kept (unhide S2) hw' (by simp)) Tryd.underlying26 rfl (unhide ZLb) ?_
          simp only [Act.put, List.setIfInBounds_toArray, List.set_cons_succ, List.set_cons_zero]
          go_big_quiet_want
          go_big_quiet_op
          apply Exists.intro
          refine ⟨fun w' hw' => ?_, ?_⟩
          · exact unhide TLb w' hw'
          go_big_quiet_on
          refine wpQuiet_val rfl (.bool true) (fun w' _ => run_eql 26 _ _ _ rfl (brow X) (brow Y) rfl rfl w' true (by kernel_rfl) (unhide HQ1 w')) ?_
          simp only [Act.put, List.setIfInBounds_toArray, List.set_cons_succ, List.set_cons_zero]
          iterate 3 (go_big_quiet_step (fail))
          refine wpQuiet_mid rfl 26 (.tmp 46) rfl w.heap.size 34 rfl (a.r.map u8) _ (fun w' hw' => range_kept (unhide R34) hw' (by simp)) Tryd.underlying26 rfl (unhide ZRa) ?_
          simp only [Act.put, List.setIfInBounds_toArray, List.set_cons_succ, List.set_cons_zero]
          go_big_quiet_want
          go_big_quiet_op
          apply Exists.intro
          refine ⟨fun w' hw' => ?_, ?_⟩
          · exact unhide TRa w' hw'
          go_big_quiet_on
          iterate 2 (go_big_quiet_step (fail))
          refine wpQuiet_mid rfl 26 (.tmp 50) rfl (w.heap.size + 1) 34 rfl (b.r.map u8) _ (fun w' hw' => range_kept (unhide S34) hw' (by simp)) Tryd.underlying26 rfl (unhide ZRb) ?_
          simp only [Act.put, List.setIfInBounds_toArray, List.set_cons_succ, List.set_cons_zero]
          go_big_quiet_want
          go_big_quiet_op
          apply Exists.intro
          refine ⟨fun w' hw' => ?_, ?_⟩
          · exact unhide TRb w' hw'
          go_big_quiet_on
          refine wpQuiet_val rfl (.bool false) (fun w' _ => run_eql 26 _ _ _ rfl (brow U) (brow V) rfl rfl w' false (by kernel_rfl) (unhide HQ2 w')) ?_
          simp only [Act.put, List.setIfInBounds_toArray, List.set_cons_succ, List.set_cons_zero]
          iterate 2 (go_big_quiet_step (fail))
          refine wpQuiet_nil ?_
          intro w6 hw6
          have HK6 := hide ((unhide HK0).trans hw6 (by simp))
          clear hw6 hnp
          go_wp2
          go_ret
          exact ⟨by rw [unhide HD2]; rfl, unhide HK6⟩
        · have hnp : ∀ p : Prop, (∀ w', Kept [] W0 w' → p) = p := fun p => propext ⟨fun h => h W0 (Kept.refl [] W0), fun h _ _ => h⟩
          refine wp_region_keep (by kernel_rfl) (by kernel_rfl) ?_
          iterate 2 (go_big_quiet_step (fail))
          refine wpQuiet_mid rfl 26 (.tmp 36) rfl w.heap.size 2 rfl (a.l.map u8) _ (fun w' hw' => range_kept (unhide R2) hw' (by simp)) Tryd.underlying26 rfl (unhide ZLa) ?_
          simp only [Act.put, List.setIfInBounds_toArray, List.set_cons_succ, List.set_cons_zero]
          go_big_quiet_want
          go_big_quiet_op
          apply Exists.intro
          refine ⟨fun w' hw' => ?_, ?_⟩
          · exact unhide TLa w' hw'
          go_big_quiet_on
          iterate 2 (go_big_quiet_step (fail))
          refine wpQuiet_mid rfl 26 (.tmp 40) rfl (w.heap.size + 1) 2 rfl (b.l.map u8) _ (fun w' hw' => range_kept (unhide S2) hw' (by simp)) Tryd.underlying26 rfl (unhide ZLb) ?_
          simp only [Act.put, List.setIfInBounds_toArray, List.set_cons_succ, List.set_cons_zero]
          go_big_quiet_want
          go_big_quiet_op
          apply Exists.intro
          refine ⟨fun w' hw' => ?_, ?_⟩
          · exact unhide TLb w' hw'
          go_big_quiet_on
          refine wpQuiet_val rfl (.bool true) (fun w' _ => run_eql 26 _ _ _ rfl (brow X) (brow Y) rfl rfl w' true (by kernel_rfl) (unhide HQ1 w')) ?_
          simp only [Act.put, List.setIfInBounds_toArray, List.set_cons_succ, List.set_cons_zero]
          iterate 3 (go_big_quiet_step (fail))
          refine wpQuiet_mid rfl 26 (.tmp 46) rfl w.heap.size 34 rfl (a.r.map u8) _ (fun w' hw' => range_kept (unhide R34) hw' (by simp)) Tryd.underlying26 rfl (unhide ZRa) ?_
          simp only [Act.put, List.setIfInBounds_toArray, List.set_cons_succ, List.set_cons_zero]
          go_big_quiet_want
          go_big_quiet_op
          apply Exists.intro
          refine ⟨fun w' hw' => ?_, ?_⟩
          · exact unhide TRa w' hw'
          go_big_quiet_on
          iterate 2 (go_big_quiet_step (fail))
          refine wpQuiet_mid rfl 26 (.tmp 50) rfl (w.heap.size + 1) 34 rfl (b.r.map u8) _ (fun w' hw' => range_kept (unhide S34) hw' (by simp)) Tryd.underlying26 rfl (unhide ZRb) ?_
          simp only [Act.put, List.setIfInBounds_toArray, List.set_cons_succ, List.set_cons_zero]
          go_big_quiet_want
          go_big_quiet_op
          apply Exists.intro
          refine ⟨fun w' hw' => ?_, ?_⟩
          · exact unhide TRb w' hw'
          go_big_quiet_on
          refine wpQuiet_val rfl (.bool true) (fun w' _ => run_eql 26 _ _ _ rfl (brow U) (brow V) rfl rfl w' true (by kernel_rfl) (unhide HQ2 w')) ?_
          simp only [Act.put, List.setIfInBounds_toArray, List.set_cons_succ, List.set_cons_zero]
          iterate 2 (go_big_quiet_step (fail))
          refine wpQuiet_nil ?_
          intro w6 hw6
          have HK6 := hide ((unhide HK0).trans hw6 (by simp))
          clear hw6 hnp
          go_wp2
          go_ret
          exact ⟨by rw [unhide HD2]; rfl, unhide HK6⟩
    · have HD2 := hide (by rw [← unhide HD]; rw [ndL_eq (unhide HNE) (by omega)]; simp [sameD, tp, hkd] : D = decide (a.ps = b.ps))
      rw [hkd] at c0 d0
      clear hkd k0
      have q1 := unhide C66
      have q2 := unhide D66
      go_wp2_with (rw [unhide HW0])
      refine Calls.mono (tpairs_any _ _ a.ps b.ps _ (unhide HAO).ps (unhide HBO).ps) ?_
      rintro e w1 ⟨rfl, k1⟩
      rw [← unhide HD2]
      have HK1 := hide ((unhide HK0).trans k1 (by simp))
      clear k1
      go_wp2
      go_ret
      exact ⟨rfl, unhide HK1⟩
    · have HD2 := hide (by rw [← unhide HD]; rw [ndL_eq (unhide HNE) (by omega)]; simp [sameD, tp, hkd] : D = (decide (a.x = b.x) && decide (kidL k a.x a.ds = kidL k b.x b.ds)))
      rw [hkd] at c0 d0
      clear hkd k0
      have HLX := hide (fun (e : a.x = b.x) => by rw [kidL_len k a.x a.ds (unhide PA).x, kidL_len k b.x b.ds (unhide PB).x, e] : a.x = b.x → (kidL k a.x a.ds).length = (kidL k b.x b.ds).length)
      generalize kidL k a.x a.ds = KA at HKA HD2 HLX
      generalize kidL k b.x b.ds = KB at HKB HD2 HLX
      generalize a.x = xa at C67 HD2 HLX
      generalize b.x = xb at D67 HD2 HLX
      go_wp2_with (first
        | (rw [unhide HW0])
        | (refine wpList_load_mid rfl 56 _ rfl w.heap.size 0 rfl A _ (range_all (unhide NA)) Tryd.underlying56 rfl (unhide HSA) ?_))
      refine Calls.mono (unhide HKA W0 (unhide HK0)) ?_
      rintro e w1 ⟨u1, rfl, ru, k1⟩
      obtain ⟨ua, uc, rfl⟩ := ru.formT
      have NB1 := hide (k1.heap (unhide NB) (by simp))
      have HK1 := hide ((unhide HK0).trans k1 (by simp))
      have HX1 := hide k1
      have RU := hide ru
      clear ru k1
      go_wp2_with (first
        | (refine wpList_load_mid rfl 56 _ rfl (w.heap.size + 1) 0 rfl B _ (range_all (unhide NB1)) Tryd.underlying56 rfl (unhide HSB) ?_))
      refine Calls.mono (unhide HKB w1 (unhide HK1)) ?_
      rintro e w2 ⟨v1, rfl, rv, k2⟩
      obtain ⟨va, vc, rfl⟩ := rv.formT
      have HK2 := hide ((unhide HK1).trans k2 (by simp))
      have HX2 := hide ((unhide HX1).trans k2 (by simp))
      have RU2 := hide ((unhide RU).old k2)
      have RV2 := hide rv
      have Q67 := hide ((unhide HX2).cell (unhide C67) (by simp))
      have P67 := hide ((unhide HX2).cell (unhide D67) (by simp))
      clear rv k2 RU HKA HKB NA NB NB1
      go_wp2_with fail
      go_loopw [9] (fun t9 wr => ∃ (i : Nat), i ≤ KA.length ∧ i ≤ KB.length ∧ t9 = .int .i64 i ∧ Hid (KA.take i = KB.take i) ∧ Hid (Kept [] w2 wr)) (fun t _ => KA.length - (intOf t).toNat)
      case atStart => exact ⟨0, by omega, by omega, rfl, hide (by simp), hide (Kept.refl _ _)⟩
      case round =>
        obtain ⟨i, hia, hib, rfl, HT, HK⟩ := hrel
        have hbg := (unhide RU2).big
        have HE := hide (fun (hi : ¬ (i < KA.length ∧ i < KB.length)) => (by
          rw [unhide HD2]
          by_cases hx : xa = xb
          · rw [decide_eq_true hx, decide_eq_true (kids_end (unhide HT) (unhide HLX hx) hi)]; simp [hx]
          · rw [decide_eq_false hx]; have : ¬ (xa : Int) = (xb : Int) := by omega
            simp [this] : D = ((xa : Int) == (xb : Int))))
        have q67 := (unhide HK).cell (unhide Q67) (by simp)
        have p67 := (unhide HK).cell (unhide P67) (by simp)
        by_cases hlt : i < KA.length
        · have hlt' : (i : Int) < KA.length := by omega
          by_cases hle : i < KB.length
          · have hle' : (i : Int) < KB.length := by omega
            have ia : ¬ (i : Int) < 0 := by omega
            obtain ⟨bb, off, rfl, hcell⟩ := ((unhide RU2).old (unhide HK)).atT i hlt
            obtain ⟨bc, off', rfl, gcell⟩ := ((unhide RV2).old (unhide HK)).atT i hle
            have HDa := hide (getD_dg (unhide RU2).digs i)
            have HDb := hide (getD_dg (unhide RV2).digs i)
            have e1 : KA.getD i zD = KA[i] := by rw [List.getD_eq_getElem?_getD, List.getElem?_eq_getElem hlt]; rfl
            have e2 : KB.getD i zD = KB[i] := by rw [List.getD_eq_getElem?_getD, List.getElem?_eq_getElem hle]; rfl
            have HN := hide (fun (h : KA.getD i zD = KB.getD i zD) => take_same KA KB i hlt hle (unhide HT) (by rw [← e1, ← e2]; exact h))
            have HM := hide (fun (h : ¬ KA.getD i zD = KB.getD i zD) => decide_eq_false (fun e => h (by rw [e]) : ¬ KA = KB))
            clear e1 e2
            generalize KA.getD i zD = d at HDa HN HM hcell
            generalize KB.getD i zD = d' at HDb HN HM gcell
            have HR1 := hide hcell
            have HR2 := hide gcell
            have HS1 := hide (by rw [List.length_map, (unhide HDa).1]; exact Tryd.size_dig : (Tryd.prog.info? 26).map (·.size) = some (d.map u8).length)
            have HS2 := hide (by rw [List.length_map, (unhide HDb).1]; exact Tryd.size_dig : (Tryd.prog.info? 26).map (·.size) = some (d'.map u8).length)
            have HQD := hide (fun W => dig_eq W d d' (unhide HDa).1 (unhide HDb).1)
            clear hcell gcell q67 p67 HE
            by_cases hdd : d = d'
            · rw [decide_eq_true hdd] at HQD
              have HN2 := hide (unhide HN hdd)
              clear hdd HN HM
              go_wp2_with fail
              have hnp : ∀ p : Prop, (∀ w', Kept [] wr w' → p) = p := fun p => propext ⟨fun h => h wr (Kept.refl [] wr), fun h _ _ => h⟩
              refine wp_region_keep (by kernel_rfl) (by kernel_rfl) ?_
              iterate 3 (go_big_quiet_step (fail))
              refine wpQuiet_mid rfl 26 (.tmp 84) rfl bb (off + i * 32) rfl (d.map u8) _ (fun w' hw' => range_kept (unhide HR1) hw' (by simp)) Tryd.underlying26 rfl (unhide HS1) ?_
              simp only [Act.put, List.setIfInBounds_toArray, List.set_cons_succ, List.set_cons_zero]
              iterate 3 (go_big_quiet_step (fail))
              refine wpQuiet_mid rfl 26 (.tmp 88) rfl bc (off' + i * 32) rfl (d'.map u8) _ (fun w' hw' => range_kept (unhide HR2) hw' (by simp)) Tryd.underlying26 rfl (unhide HS2) ?_
              simp only [Act.put, List.setIfInBounds_toArray, List.set_cons_succ, List.set_cons_zero]
              refine wpQuiet_val rfl (.bool false) (fun w' _ => run_neq 26 _ _ _ rfl (d.map u8).toArray (d'.map u8).toArray rfl rfl w' true (by kernel_rfl) (unhide HQD w')) ?_
              simp only [Act.put, List.setIfInBounds_toArray, List.set_cons_succ, List.set_cons_zero]
              refine wpQuiet_nil ?_
              intro w6 hw6
              have HK6 := hide ((unhide HK).trans hw6 (by simp))
              clear hw6 hnp
              go_wp2
              refine ⟨⟨i + 1, by omega, by omega, by go_num, HN2, HK6⟩, ?_⟩
              simp [intOf]; omega
            · rw [decide_eq_false hdd] at HQD
              have HM2 := hide (by rw [unhide HD2, unhide HM hdd]; simp : D = false)
              clear hdd HN HM
              go_wp2_with fail
              have hnp : ∀ p : Prop, (∀ w', Kept [] wr w' → p) = p := fun p => propext ⟨fun h => h wr (Kept.refl [] wr), fun h _ _ => h⟩
              refine wp_region_keep (by kernel_rfl) (by kernel_rfl) ?_
              iterate 3 (go_big_quiet_step (fail))
              refine wpQuiet_mid rfl 26 (.tmp 84) rfl bb (off + i * 32) rfl (d.map u8) _ (fun w' hw' => range_kept (unhide HR1) hw' (by simp)) Tryd.underlying26 rfl (unhide HS1) ?_
              simp only [Act.put, List.setIfInBounds_toArray, List.set_cons_succ, List.set_cons_zero]
              iterate 3 (go_big_quiet_step (fail))
              refine wpQuiet_mid rfl 26 (.tmp 88) rfl bc (off' + i * 32) rfl (d'.map u8) _ (fun w' hw' => range_kept (unhide HR2) hw' (by simp)) Tryd.underlying26 rfl (unhide HS2) ?_
              simp only [Act.put, List.setIfInBounds_toArray, List.set_cons_succ, List.set_cons_zero]
              refine wpQuiet_val rfl (.bool true) (fun w' _ => run_neq 26 _ _ _ rfl (d.map u8).toArray (d'.map u8).toArray rfl rfl w' false (by kernel_rfl) (unhide HQD w')) ?_
              simp only [Act.put, List.setIfInBounds_toArray, List.set_cons_succ, List.set_cons_zero]
              refine wpQuiet_nil ?_
              intro w6 hw6
              have HK6 := hide ((unhide HK).trans hw6 (by simp))
              have HKE := hide ((unhide HK2).trans (unhide HK6) (by simp))
              clear hw6 hnp
              go_wp2
              go_ret
              exact ⟨by rw [unhide HM2]; rfl, unhide HKE⟩
          · have hle' : ¬ (i : Int) < KB.length := by omega
            have HE2 := hide (unhide HE (by omega))
            go_wp2
            go_ret
            exact ⟨by rw [unhide HE2]; rfl, (unhide HK2).trans (unhide HK) (by simp)⟩
        · have hlt' : ¬ (i : Int) < KA.length := by omega
          have HE2 := hide (unhide HE (by omega))
          go_wp2
          go_ret
          exact ⟨by rw [unhide HE2]; rfl, (unhide HK2).trans (unhide HK) (by simp)⟩
    · have HD2 := hide (by rw [← unhide HD]; rw [ndL_eq (unhide HNE) (by omega)]; simp [sameD, tp, hkd] : D = (decide (a.s = b.s) && (decide (cutL k a.lg = cutL k b.lg) && decide (cutL k a.mp = cutL k b.mp))))
      rw [hkd] at c0 d0
      clear hkd k0
      generalize cutL k a.lg = X at TGa DGa HD2
      generalize cutL k b.lg = Y at TGb DGb HD2
      generalize cutL k a.mp = U at TMa DMa HD2
      generalize cutL k b.mp = V at TMb DMb HD2
      have HQ1 := hide (fun W => dig_eq W X Y (unhide DGa).1 (unhide DGb).1)
      have HQ2 := hide (fun W => dig_eq W U V (unhide DMa).1 (unhide DMb).1)
      generalize decide (X = Y) = e1 at HQ1 HD2
      generalize decide (U = V) = e2 at HQ2 HD2
      generalize a.s = sa at C69 HD2
      generalize b.s = sb at D69 HD2
      by_cases hs : sa = sb
      · have hse : ((sa : Int) == (sb : Int)) = true := by rw [hs]; simp
        rw [decide_eq_true hs] at HD2
        clear hs
        go_wp2_with (rw [unhide HW0])
        cases e1
        · have hnp : ∀ p : Prop, (∀ w', Kept [] W0 w' → p) = p := fun p => propext ⟨fun h => h W0 (Kept.refl [] W0), fun h _ _ => h⟩
          refine wp_region_keep (by kernel_rfl) (by kernel_rfl) ?_
          iterate 2 (go_big_quiet_step (fail))
          refine wpQuiet_val rfl (.int .u64 (sa : Int)) (fun w' hw' => run_load1 30 (.tmp 99) rfl ⟨w.heap.size, 69, none⟩ rfl w' _ .u64 Tryd.underlying30 (hw'.cell (unhide C69) (by simp))) ?_
          simp only [Act.put, List.setIfInBounds_toArray, List.set_cons_succ, List.set_cons_zero]
          iterate 2 (go_big_quiet_step (fail))
          refine wpQuiet_val rfl (.int .u64 (sb : Int)) (fun w' hw' => run_load1 30 (.tmp 102) rfl ⟨(w.heap.size + 1), 69, none⟩ rfl w' _ .u64 Tryd.underlying30 (hw'.cell (unhide D69) (by simp))) ?_
          simp only [Act.put, List.setIfInBounds_toArray, List.set_cons_succ, List.set_cons_zero]
          iterate 2 (go_big_quiet_step (fail))
          iterate 3 (go_big_quiet_step (fail))
          refine wpQuiet_mid rfl 26 (.tmp 108) rfl w.heap.size 70 rfl (a.lg.map u8) _ (fun w' hw' => range_kept (unhide R70) hw' (by simp)) Tryd.underlying26 rfl (unhide ZGa) ?_
          simp only [Act.put, List.setIfInBounds_toArray, List.set_cons_succ, List.set_cons_zero]
          go_big_quiet_want
          go_big_quiet_op
          apply Exists.intro
          refine ⟨fun w' hw' => ?_, ?_⟩
          · exact unhide TGa w' hw'
          go_big_quiet_on
          iterate 3 (go_big_quiet_step (fail))
          refine wpQuiet_mid rfl 26 (.tmp 113) rfl (w.heap.size + 1) 70 rfl (b.lg.map u8) _ (fun w' hw' => range_kept (unhide S70) hw' (by simp)) Tryd.underlying26 rfl (unhide ZGb) ?_
          simp only [Act.put, List.setIfInBounds_toArray, List.set_cons_succ, List.set_cons_zero]
          go_big_quiet_want
          go_big_quiet_op
          apply Exists.intro
          refine ⟨fun w' hw' => ?_, ?_⟩
          · exact unhide TGb w' hw'
          go_big_quiet_on
          refine wpQuiet_val rfl (.bool false) (fun w' _ => run_eql 26 _ _ _ rfl (brow X) (brow Y) rfl rfl w' false (by kernel_rfl) (unhide HQ1 w')) ?_
          simp only [Act.put, List.setIfInBounds_toArray, List.set_cons_succ, List.set_cons_zero]
          repeat (go_big_quiet_step (fail))
          refine wpQuiet_nil ?_
          intro w6 hw6
          have HK6 := hide ((unhide HK0).trans hw6 (by simp))
          clear hw6 hnp
          go_wp2
          go_ret
          exact ⟨by rw [unhide HD2]; rfl, unhide HK6⟩
        · cases e2
          · have hnp : ∀ p : Prop, (∀ w', Kept [] W0 w' → p) = p := fun p => propext ⟨fun h => h W0 (Kept.refl [] W0), fun h _ _ => h⟩
            refine wp_region_keep (by kernel_rfl) (by kernel_rfl) ?_
            iterate 2 (go_big_quiet_step (fail))
            refine wpQuiet_val rfl (.int .u64 (sa : Int)) (fun w' hw' => run_load1 30 (.tmp 99) rfl ⟨w.heap.size, 69, none⟩ rfl w' _ .u64 Tryd.underlying30 (hw'.cell (unhide C69) (by simp))) ?_
            simp only [Act.put, List.setIfInBounds_toArray, List.set_cons_succ, List.set_cons_zero]
            iterate 2 (go_big_quiet_step (fail))
            refine wpQuiet_val rfl (.int .u64 (sb : Int)) (fun w' hw' => run_load1 30 (.tmp 102) rfl ⟨(w.heap.size + 1), 69, none⟩ rfl w' _ .u64 Tryd.underlying30 (hw'.cell (unhide D69) (by simp))) ?_
            simp only [Act.put, List.setIfInBounds_toArray, List.set_cons_succ, List.set_cons_zero]
            iterate 2 (go_big_quiet_step (fail))
            iterate 3 (go_big_quiet_step (fail))
            refine wpQuiet_mid rfl 26 (.tmp 108) rfl w.heap.size 70 rfl (a.lg.map u8) _ (fun w' hw' => range_kept (unhide R70) hw' (by simp)) Tryd.underlying26 rfl (unhide ZGa) ?_
            simp only [Act.put, List.setIfInBounds_toArray, List.set_cons_succ, List.set_cons_zero]
            go_big_quiet_want
            go_big_quiet_op
            apply Exists.intro
            refine ⟨fun w' hw' => ?_, ?_⟩
            · exact unhide TGa w' hw'
            go_big_quiet_on
            iterate 3 (go_big_quiet_step (fail))
            refine wpQuiet_mid rfl 26 (.tmp 113) rfl (w.heap.size + 1) 70 rfl (b.lg.map u8) _ (fun w' hw' => range_kept (unhide S70) hw' (by simp)) Tryd.underlying26 rfl (unhide ZGb) ?_
            simp only [Act.put, List.setIfInBounds_toArray, List.set_cons_succ, List.set_cons_zero]
            go_big_quiet_want
            go_big_quiet_op
            apply Exists.intro
            refine ⟨fun w' hw' => ?_, ?_⟩
            · exact unhide TGb w' hw'
            go_big_quiet_on
            refine wpQuiet_val rfl (.bool true) (fun w' _ => run_eql 26 _ _ _ rfl (brow X) (brow Y) rfl rfl w' true (by kernel_rfl) (unhide HQ1 w')) ?_
            simp only [Act.put, List.setIfInBounds_toArray, List.set_cons_succ, List.set_cons_zero]
            iterate 2 (go_big_quiet_step (fail))
            iterate 3 (go_big_quiet_step (fail))
            refine wpQuiet_mid rfl 26 (.tmp 121) rfl w.heap.size 102 rfl (a.mp.map u8) _ (fun w' hw' => range_kept (unhide R102) hw' (by simp)) Tryd.underlying26 rfl (unhide ZMa) ?_
            simp only [Act.put, List.setIfInBounds_toArray, List.set_cons_succ, List.set_cons_zero]
            go_big_quiet_want
            go_big_quiet_op
            apply Exists.intro
            refine ⟨fun w' hw' => ?_, ?_⟩
            · exact unhide TMa w' hw'
            go_big_quiet_on
            iterate 3 (go_big_quiet_step (fail))
            refine wpQuiet_mid rfl 26 (.tmp 126) rfl (w.heap.size + 1) 102 rfl (b.mp.map u8) _ (fun w' hw' => range_kept (unhide S102) hw' (by simp)) Tryd.underlying26 rfl (unhide ZMb) ?_
            simp only [Act.put, List.setIfInBounds_toArray, List.set_cons_succ, List.set_cons_zero]
            go_big_quiet_want
            go_big_quiet_op
            apply Exists.intro
            refine ⟨fun w' hw' => ?_, ?_⟩
            · exact unhide TMb w' hw'
            go_big_quiet_on
            refine wpQuiet_val rfl (.bool false) (fun w' _ => run_eql 26 _ _ _ rfl (brow U) (brow V) rfl rfl w' false (by kernel_rfl) (unhide HQ2 w')) ?_
            simp only [Act.put, List.setIfInBounds_toArray, List.set_cons_succ, List.set_cons_zero]
            repeat (go_big_quiet_step (fail))
            refine wpQuiet_nil ?_
            intro w6 hw6
            have HK6 := hide ((unhide HK0).trans hw6 (by simp))
            clear hw6 hnp
            go_wp2
            go_ret
            exact ⟨by rw [unhide HD2]; rfl, unhide HK6⟩
          · have hnp : ∀ p : Prop, (∀ w', Kept [] W0 w' → p) = p := fun p => propext ⟨fun h => h W0 (Kept.refl [] W0), fun h _ _ => h⟩
            refine wp_region_keep (by kernel_rfl) (by kernel_rfl) ?_
            iterate 2 (go_big_quiet_step (fail))
            refine wpQuiet_val rfl (.int .u64 (sa : Int)) (fun w' hw' => run_load1 30 (.tmp 99) rfl ⟨w.heap.size, 69, none⟩ rfl w' _ .u64 Tryd.underlying30 (hw'.cell (unhide C69) (by simp))) ?_
            simp only [Act.put, List.setIfInBounds_toArray, List.set_cons_succ, List.set_cons_zero]
            iterate 2 (go_big_quiet_step (fail))
            refine wpQuiet_val rfl (.int .u64 (sb : Int)) (fun w' hw' => run_load1 30 (.tmp 102) rfl ⟨(w.heap.size + 1), 69, none⟩ rfl w' _ .u64 Tryd.underlying30 (hw'.cell (unhide D69) (by simp))) ?_
            simp only [Act.put, List.setIfInBounds_toArray, List.set_cons_succ, List.set_cons_zero]
            iterate 2 (go_big_quiet_step (fail))
            iterate 3 (go_big_quiet_step (fail))
            refine wpQuiet_mid rfl 26 (.tmp 108) rfl w.heap.size 70 rfl (a.lg.map u8) _ (fun w' hw' => range_kept (unhide R70) hw' (by simp)) Tryd.underlying26 rfl (unhide ZGa) ?_
            simp only [Act.put, List.setIfInBounds_toArray, List.set_cons_succ, List.set_cons_zero]
            go_big_quiet_want
            go_big_quiet_op
            apply Exists.intro
            refine ⟨fun w' hw' => ?_, ?_⟩
            · exact unhide TGa w' hw'
            go_big_quiet_on
            iterate 3 (go_big_quiet_step (fail))
            refine wpQuiet_mid rfl 26 (.tmp 113) rfl (w.heap.size + 1) 70 rfl (b.lg.map u8) _ (fun w' hw' => range_kept (unhide S70) hw' (by simp)) Tryd.underlying26 rfl (unhide ZGb) ?_
            simp only [Act.put, List.setIfInBounds_toArray, List.set_cons_succ, List.set_cons_zero]
            go_big_quiet_want
            go_big_quiet_op
            apply Exists.intro
            refine ⟨fun w' hw' => ?_, ?_⟩
            · exact unhide TGb w' hw'
            go_big_quiet_on
            refine wpQuiet_val rfl (.bool true) (fun w' _ => run_eql 26 _ _ _ rfl (brow X) (brow Y) rfl rfl w' true (by kernel_rfl) (unhide HQ1 w')) ?_
            simp only [Act.put, List.setIfInBounds_toArray, List.set_cons_succ, List.set_cons_zero]
            iterate 2 (go_big_quiet_step (fail))
            iterate 3 (go_big_quiet_step (fail))
            refine wpQuiet_mid rfl 26 (.tmp 121) rfl w.heap.size 102 rfl (a.mp.map u8) _ (fun w' hw' => range_kept (unhide R102) hw' (by simp)) Tryd.underlying26 rfl (unhide ZMa) ?_
            simp only [Act.put, List.setIfInBounds_toArray, List.set_cons_succ, List.set_cons_zero]
            go_big_quiet_want
            go_big_quiet_op
            apply Exists.intro
            refine ⟨fun w' hw' => ?_, ?_⟩
            · exact unhide TMa w' hw'
            go_big_quiet_on
            iterate 3 (go_big_quiet_step (fail))
            refine wpQuiet_mid rfl 26 (.tmp 126) rfl (w.heap.size + 1) 102 rfl (b.mp.map u8) _ (fun w' hw' => range_kept (unhide S102) hw' (by simp)) Tryd.underlying26 rfl (unhide ZMb) ?_
            simp only [Act.put, List.setIfInBounds_toArray, List.set_cons_succ, List.set_cons_zero]
            go_big_quiet_want
            go_big_quiet_op
            apply Exists.intro
            refine ⟨fun w' hw' => ?_, ?_⟩
            · exact unhide TMb w' hw'
            go_big_quiet_on
            refine wpQuiet_val rfl (.bool true) (fun w' _ => run_eql 26 _ _ _ rfl (brow U) (brow V) rfl rfl w' true (by kernel_rfl) (unhide HQ2 w')) ?_
            simp only [Act.put, List.setIfInBounds_toArray, List.set_cons_succ, List.set_cons_zero]
            repeat (go_big_quiet_step (fail))
            refine wpQuiet_nil ?_
            intro w6 hw6
            have HK6 := hide ((unhide HK0).trans hw6 (by simp))
            clear hw6 hnp
            go_wp2
            go_ret
            exact ⟨by rw [unhide HD2]; rfl, unhide HK6⟩
      · have hse : ((sa : Int) == (sb : Int)) = false := by rw [beq_eq_false_iff_ne]; omega
        rw [decide_eq_false hs] at HD2
        clear hs
        go_wp2_with (rw [unhide HW0])
        have hnp : ∀ p : Prop, (∀ w', Kept [] W0 w' → p) = p := fun p => propext ⟨fun h => h W0 (Kept.refl [] W0), fun h _ _ => h⟩
        refine wp_region_keep (by kernel_rfl) (by kernel_rfl) ?_
        iterate 2 (go_big_quiet_step (fail))
        refine wpQuiet_val rfl (.int .u64 (sa : Int)) (fun w' hw' => run_load1 30 (.tmp 99) rfl ⟨w.heap.size, 69, none⟩ rfl w' _ .u64 Tryd.underlying30 (hw'.cell (unhide C69) (by simp))) ?_
        simp only [Act.put, List.setIfInBounds_toArray, List.set_cons_succ, List.set_cons_zero]
        iterate 2 (go_big_quiet_step (fail))
        refine wpQuiet_val rfl (.int .u64 (sb : Int)) (fun w' hw' => run_load1 30 (.tmp 102) rfl ⟨(w.heap.size + 1), 69, none⟩ rfl w' _ .u64 Tryd.underlying30 (hw'.cell (unhide D69) (by simp))) ?_
        simp only [Act.put, List.setIfInBounds_toArray, List.set_cons_succ, List.set_cons_zero]
        iterate 2 (go_big_quiet_step (fail))
        repeat (go_big_quiet_step (fail))
        refine wpQuiet_nil ?_
        intro w6 hw6
        have HK6 := hide ((unhide HK0).trans hw6 (by simp))
        clear hw6 hnp
        go_wp2
        go_ret
        exact ⟨by rw [unhide HD2]; rfl, unhide HK6⟩
    · have HD2 := hide (by rw [← unhide HD]; exact ndL_six (unhide HNE) (by omega) : D = true)
      generalize a.kd = q at c0 d0 hkd k0
      have e0 : (q == 0) = false := by simp; omega
      have e1 : (q == 1) = false := by simp; omega
      have e2 : (q == 2) = false := by simp; omega
      have e3 : (q == 3) = false := by simp; omega
      have e4 : (q == 4) = false := by simp; omega
      have e5 : (q == 5) = false := by simp; omega
      clear hkd k0
      go_wp2_with (rw [unhide HW0])
      go_ret
      exact ⟨by rw [unhide HD2]; rfl, unhide HK0⟩
  · have HD2 := hide (by rw [← unhide HD]; exact ndL_ne hne : D = decide (6 < a.kd ∧ 6 < b.kd))
    have hne' : (a.kd != b.kd) = true := by simpa using hne
    generalize a.kd = q at c0 HD2 hne' hne
    generalize b.kd = q' at d0 HD2 hne' hne
    clear hne k0 k1
    by_cases g1 : 6 < q
    · by_cases g2 : 6 < q'
      · have HD3 := hide (by rw [unhide HD2]; simp [g1, g2] : D = true)
        go_wp2_with (rw [unhide HW0])
        go_ret
        exact ⟨by rw [unhide HD3]; rfl, unhide HK0⟩
      · have HD3 := hide (by rw [unhide HD2]; simp [g1, g2] : D = false)
        go_wp2_with (rw [unhide HW0])
        go_ret
        exact ⟨by rw [unhide HD3]; rfl, unhide HK0⟩
    · have HD3 := hide (by rw [unhide HD2]; simp [g1] : D = false)
      go_wp2_with (rw [unhide HW0])
      go_ret
      exact ⟨by rw [unhide HD3]; rfl, unhide HK0⟩
end Go.Proofs.YtbbjbpjpejekgaaDoor
namespace Go.Proofs.YtbbjbpjpejekgaaDoor
open Go.RowKit Go.BigFrame
set_option linter.unusedVariables false
set_option linter.unusedSimpArgs false

theorem five_dig : cutL 1 (hash [5]) = 231 :: List.replicate 31 0 := by
  unfold hash hashW
  have e : [5] ++ pad [5].length = [5, 128] ++ List.replicate 61 0 ++ [8] := by decide
  rw [e, chain_step (by decide), chain_short (by decide), ← evC_eq]
  decide +kernel
theorem five_not {k : Nat} (h1 : 1 ≤ k) (hk : k ≤ 32) : ¬ cutL k (hash [5]) = zD := by
  intro h
  have hl := hash_len [5]
  have h5 := five_dig
  unfold cutL at h h5
  generalize hash [5] = d at h h5 hl
  match d, hl with
  | x :: r, hl =>
    obtain ⟨k, rfl⟩ : ∃ j, k = j + 1 := ⟨k - 1, by omega⟩
    simp only [List.take_succ_cons, List.cons_append, zD, List.replicate_succ, List.cons.injEq] at h h5
    have := h5.1
    have := h.1
    omega
theorem wpList_build_asG {P : Program} {ops : Array Oper} {rest : List Oper} {o : Oper} {a : Act} {w : World} {Q : Exit → Act → World → Prop} (t : TypeId) (parts : Array (Nat × Operand)) (ho : o.op = .build t parts) (hw : Region.wanted o (yielded ops a.tmps) = true) (cs : Array Value)
    (hb : P.built t (parts.map fun (i, x) => (i, a.eval x)).toList = some cs) (h : wpList P ops Q rest (a.put o.dst (.agg cs)) w) : wpList P ops Q (o :: rest) a w :=
  wpList_want hw fun _ hK => wp_build t parts ho (by rw [hb]; rfl) (by rw [hb]; exact hK _ _ h)
theorem wpList_valG {P : Program} {ops : Array Oper} {rest : List Oper} {o : Oper} {a : Act} {w : World} {Q : Exit → Act → World → Prop} (v : Value) (hr : (execOp a.eval o).run P w = .ok (.value v) w) (hw : Region.wanted o (yielded ops a.tmps) = true) (h : wpList P ops Q rest (a.put o.dst v) w) : wpList P ops Q (o :: rest) a w :=
  wpList_want hw fun _ hK => by
    unfold Oper.wp
    rw [hr]
    exact hK _ _ h
theorem wpList_load_midH {P : Program} {ops : Array Oper} {rest : List Oper} {op : Oper} {a : Act} {w : World} {Q : Exit → Act → World → Prop} (ty : TypeId) (x : Operand) (ho : op.op = .load ty x) (hw : Region.wanted op (yielded ops a.tmps) = true)
    (b o : Nat) (hx : a.eval x = .pointer (some ⟨b, o, none⟩)) (cs : List Value) (d : TypeDesc) (hc : w.rangeAt b o cs)
    (hu : P.underlying ty = some d) (hd : d.isRow = true) (hi : (P.info? ty).map (·.size) = some cs.length)
    (h : wpList P ops Q rest (a.put op.dst (.agg cs.toArray)) w) : wpList P ops Q (op :: rest) a w :=
  wpList_want hw fun _ hK => wp_load_mid ty x ho b o hx cs d hc hu hd hi (hK _ _ h)
/-- A node that came in. -/
structure OkN (w : World) (o : OpD) (pv kv dv : Value) : Prop where
  ok : OkD w o pv kv dv
  kd : 0 ≤ o.kd ∧ o.kd < 256

set_option maxRecDepth 100000 in
set_option maxHeartbeats 4000000 in
theorem wholeTags_go (n : Nat) (a b : OpD) (pa ka da pb kb db : Value) (w : World) (hn : n < 256) (ha : OkN w a pa ka da) (hb : OkN w b pb kb db) (hT : Tabs w) :
    Calls Tryd.prog 4 #[.int .u8 (n : Int), .agg (ndC a pa ka da).toArray, .agg (ndC b pb kb db).toArray] w fun e w' => e = .returned (.bool true) ∧ Kept [] w w' := by
  obtain ⟨k, hkn⟩ : ∃ k, 1 + n % 32 = k := ⟨_, rfl⟩
  have h1 : 1 ≤ k := by omega
  have hk : k ≤ 32 := by omega
  have HWD := hide (fun W => twidth_any n W hn)
  simp only [hkn] at HWD
  clear hkn hn
  have ka0 := ha.kd
  have kb0 := hb.kd
  have ha := ha.ok
  have hb := hb.ok
  have HCA := hide (by simp [ndC, rootC, ha.l.1, ha.r.1, ha.lg.1, ha.mp.1] : (ndC a pa ka da).length = 134)
  have HCB := hide (by simp [ndC, rootC, hb.l.1, hb.r.1, hb.lg.1, hb.mp.1] : (ndC b pb kb db).length = 134)
  have HIA := hide (fun (hx : a.kd = 4 → a.x ≠ 0) W (k9 : Kept [] w W) => tinput_any k a pa ka da W (ha.old k9) h1 hk ka0 hx)
  have HIB := hide (fun (hx : b.kd = 4 → b.x ≠ 0) W (k9 : Kept [] w W) => tinput_any k b pb kb db W (hb.old k9) h1 hk kb0 hx)
  have HAL := hide (fun W (k9 : Kept [] w W) => talike_any k a b pa ka da pb kb db W (ha.old k9) (hb.old k9) h1 hk ka0 kb0)
  have heq : ∀ (xa : a.kd = 4 → a.x ≠ 0) (xb : b.kd = 4 → b.x ≠ 0), decide (ndB k a = ndB k b) = decide (ndL k a b) := fun xa xb => decide_eq_decide.2 (ndB_iff h1 hk ha.p' hb.p' ka0.1 kb0.1 xa xb)
  have HEQ := hide heq
  clear heq
  obtain ⟨A, hA⟩ : ∃ C, ndC a pa ka da = C := ⟨_, rfl⟩
  obtain ⟨B, hB⟩ : ∃ C, ndC b pb kb db = C := ⟨_, rfl⟩
  have HGA := (((Kept.refl [] (w.alloc (.cells A.toArray 56))).alloc (.cells B.toArray 56)).heap (heap_alloc_new w (.cells A.toArray 56)) (by simp))
  have HGB := (alloc_at w (.cells A.toArray 56) (.cells B.toArray 56))
  have HK0 := hide (((Kept.refl [] w).alloc (.cells A.toArray 56)).alloc (.cells B.toArray 56))
  have hx := nd_cells (o := a) (pv := pa) (kv := ka) (dv := da) (by rw [hA]; exact HGA) ha.l.1 ha.r.1 ha.lg.1
  have hy := nd_cells (o := b) (pv := pb) (kv := kb) (dv := db) (by rw [hB]; exact HGB) hb.l.1 hb.r.1 hb.lg.1
  rw [hA] at HCA HIA HAL ⊢
  rw [hB] at HCB HIB HAL ⊢
  have NA := hide HGA
  have NB := hide HGB
  obtain ⟨W0, hW0⟩ : ∃ W, (w.alloc (.cells A.toArray 56)).alloc (.cells B.toArray 56) = W := ⟨_, rfl⟩
  rw [hW0] at hx hy HK0 NA NB
  have HW0 := hide hW0
  clear hA hB HGA HGB ha hb hW0
  have C0 := hide hx.1.1
  have C67 := hide hx.2.2.2.1.2.1
  have D0 := hide hy.1.1
  have D67 := hide hy.2.2.2.1.2.1
  clear hx hy
  have HSA := hide (by rw [unhide HCA]; exact Tryd.size_node : (Tryd.prog.info? 56).map (·.size) = some A.length)
  have HSB := hide (by rw [unhide HCB]; exact Tryd.size_node : (Tryd.prog.info? 56).map (·.size) = some B.length)
  have HTB := hide hT
  have HZ := hide (by omega : -9223372036854775808 ≤ (k : Int) ∧ (k : Int) ≤ 9223372036854775807)
  have HFN := hide (five_not h1 hk)
  have HDG := hide ((⟨cutL_len k _ hk (hash_len [5]), cutL_byte k _ (hash_byte [5])⟩ : Dg (cutL k (hash [5]))))
  have HWK := hide (wide_k h1 hk)
  have HNM := hide (fun W (hT : Tabs W) => nomap_any (k : Int) W (unhide HZ) (unhide HWK) hT)
  have HSM := hide (fun W v (hv : RdL W v [[5]]) (hT : Tabs W) => dsum_any (k : Int) v [[5]] W (unhide HZ) hv (by simp) hT (unhide HWK))
  simp only [Int.toNat_natCast, List.flatten_cons, List.flatten_nil, List.append_nil] at HNM HSM
  generalize cutL k (hash [5]) = D at HNM HSM HFN HDG
  have hdl := (unhide HDG).1
  clear hT ka0 kb0
  go_enter Tryd.func4, Tryd.ntmps4
  go_wp2_with (rw [unhide HW0])
  refine Calls.mono (unhide HWD _) ?_
  rintro e w1 ⟨rfl, rfl⟩
  have HKb := hide (((Kept.refl [] w1).alloc (.cells #[.int .u8 5] 5)).alloc (.cells #[.slice (some ⟨w1.heap.size, 0, none⟩) 1 1] 24))
  have HA1 := hide (((Kept.refl [] (w1.alloc (.cells #[.int .u8 5] 5))).alloc (.cells #[.slice (some ⟨w1.heap.size, 0, none⟩) 1 1] 24)).heap (heap_alloc_new w1 (.cells #[.int .u8 5] 5)) (by simp))
  have HA2 := hide (alloc_at w1 (.cells #[.int .u8 5] 5) (.cells #[.slice (some ⟨w1.heap.size, 0, none⟩) 1 1] 24))
  go_wp2_with fail
  obtain ⟨W, hW⟩ : ∃ W, (w1.alloc (.cells #[.int .u8 5] 5)).alloc (.cells #[.slice (some ⟨w1.heap.size, 0, none⟩) 1 1] 24) = W := ⟨_, rfl⟩
  rw [hW] at HKb HA1 HA2 ⊢
  clear hW
  have hrl : RdL W (.slice (some ⟨w1.heap.size + 1, 0, none⟩) 1 1) [[5]] := by
    refine RdL.row (vs := [.slice (some ⟨w1.heap.size, 0, none⟩) 1 1]) (unhide HA2) rfl rfl (by omega) (fun i hi => ?_)
    obtain rfl : i = 0 := by omega
    exact rd_lit1 [5] (unhide HA1) rfl (by decide) 1 rfl (by omega)
  have HKW := hide ((unhide HK0).trans (unhide HKb) (by simp))
  refine Calls.mono (unhide HSM W _ hrl ((unhide HTB).k (unhide HKW))) ?_
  rintro e w2 ⟨rfl, k2⟩
  have HK2 := hide (((unhide HKb).trans k2 (by simp)).trans (kept_old w2 D) (by simp))
  have HN2 := hide (cell_new w2 D)
  obtain ⟨w3, hw3⟩ : ∃ w3, (w2.alloc (.cells (zb 32) 26)).setRow w2.heap.size (brow D) = w3 := ⟨_, rfl⟩
  rw [hw3] at HK2 HN2
  have HW3 := hide hw3
  clear hw3 k2 hrl HA1 HA2 HKW HKb
  go_wp2_with (first
    | (rw [zb32]; refine wpList_store_row rfl 26 (.tmp 8) _ rfl w2.heap.size (brow D) rfl rfl _ (zb 32) (heap_alloc_new _ _) (Tryd.szD hdl) (by rw [zb_size, brow_size, hdl]) (brow_one _) ?_; rw [unhide HW3]))
  refine Calls.mono (unhide HNM w3 ((unhide HTB).k ((unhide HK0).trans (unhide HK2) (by simp)))) ?_
  rintro e w4 ⟨rfl, k4⟩
  have HK5 := hide (((unhide HK2).trans k4 (by simp)).trans (kept_old w4 D) (by simp))
  have HN4 := hide ((kept_old w4 D).heap (k4.heap (unhide HN2) (by simp)) (by simp))
  have HN5 := hide (cell_new w4 D)
  obtain ⟨w5, hw5⟩ : ∃ w5, (w4.alloc (.cells (zb 32) 26)).setRow w4.heap.size (brow D) = w5 := ⟨_, rfl⟩
  rw [hw5] at HK5 HN4 HN5
  have HW5 := hide hw5
  clear hw5 k4 HK2 HN2
  have hq1' : ∀ W, (Op.equalIn 10000 26 (.agg (D.map u8).toArray) (.agg (D.map u8).toArray)).run Tryd.prog W = .ok true W := fun W => by have h9 := dig_eq W D D hdl hdl; rw [decide_eq_true rfl] at h9; exact h9
  have hq2' : ∀ W, (Op.equalIn 10000 26 (.agg (D.map u8).toArray) (.agg (zb 32))).run Tryd.prog W = .ok false W := fun W => by have h9 := dig_eq W D zD hdl zD_dg'.1; rw [decide_eq_false (unhide HFN)] at h9; exact h9
  have HQ1 := hide hq1'
  have HQ2 := hide hq2'
  clear hq1' hq2'
  have HZZ := hide (by rw [List.length_map, hdl]; exact Tryd.size_dig : (Tryd.prog.info? 26).map (·.size) = some (D.map u8).length)
  have c0 := hide ((unhide HK5).cell (unhide C0) (by simp))
  have c67 := hide ((unhide HK5).cell (unhide C67) (by simp))
  have d0 := hide ((unhide HK5).cell (unhide D0) (by simp))
  have d67 := hide ((unhide HK5).cell (unhide D67) (by simp))
  have NA5 := hide ((unhide HK5).heap (unhide NA) (by simp))
  have NB5 := hide ((unhide HK5).heap (unhide NB) (by simp))
  have HKE := hide ((unhide HK0).trans (unhide HK5) (by simp))
  clear HWD HNM HSM HTB HFN C0 C67 D0 D67 NA NB HDG
  generalize hqa : a.kd = qa at c0 HIA
  generalize hqb : b.kd = qb at d0 HIB
  generalize hya : a.x = ya at c67 HIA
  generalize hyb : b.x = yb at d67 HIB
  have HEQ2 : Hid (∀ (xa : qa = 4 → ya ≠ 0) (xb : qb = 4 → yb ≠ 0), decide (ndB k a = ndB k b) = decide (ndL k a b)) := hide (by rw [← hqa, ← hya, ← hqb, ← hyb]; exact unhide HEQ)
  clear hqa hqb hya hyb HEQ
  go_upto_region 6 with (first
    | (rw [zb32]; refine wpList_store_row rfl 26 (.tmp 10) _ rfl w4.heap.size (brow D) rfl rfl _ (zb 32) (heap_alloc_new _ _) (Tryd.szD hdl) (by rw [zb_size, brow_size, hdl]) (brow_one _) ?_; rw [unhide HW5])
    | (refine wpList_load_midH 26 (.tmp 8) rfl rfl w2.heap.size 0 rfl (D.map u8) _ (range_row (unhide HN4)) Tryd.underlying26 rfl (unhide HZZ) ?_)
    | (refine wpList_load_midH 26 (.tmp 10) rfl rfl w4.heap.size 0 rfl (D.map u8) _ (range_row (unhide HN5)) Tryd.underlying26 rfl (unhide HZZ) ?_)
    | (refine wpList_build_asG 26 #[] rfl rfl (zb 32) (by kernel_rfl) ?_)
    | (refine wpList_valG (.bool false) (run_neq 26 _ _ _ rfl (D.map u8).toArray (D.map u8).toArray rfl rfl _ true (by kernel_rfl) (unhide HQ1 _)) rfl ?_)
    | (refine wpList_valG (.bool false) (run_eql 26 _ _ _ rfl (D.map u8).toArray (zb 32) rfl rfl _ false (by kernel_rfl) (unhide HQ2 _)) rfl ?_))
  replace c0 := unhide c0
  replace c67 := unhide c67
  replace d0 := unhide d0
  replace d67 := unhide d67
  clear HQ1 HQ2 HN4 HN5 HZZ
  by_cases za : qa = 4 ∧ ya = 0
  · have e1 : (qa == 4) = true := by simp [za.1]
    have e2 : ((ya : Int) == 0) = true := by simp [za.2]
    obtain ⟨rfl, rfl⟩ := za
    go_upto_region 8 with fail
    go_ret
    exact ⟨rfl, unhide HKE⟩
  · have HXA := hide (fun h h0 => za ⟨h, h0⟩ : qa = 4 → ya ≠ 0)
    by_cases zb' : qb = 4 ∧ yb = 0
    · obtain ⟨rfl, rfl⟩ := zb'
      by_cases ea : qa = 4
      · have e1 : (qa == 4) = true := by simp [ea]
        have e2 : ((ya : Int) == 0) = false := by have := unhide HXA ea; simp; exact this
        subst ea
        clear za
        go_upto_region 8 with fail
        go_ret
        exact ⟨rfl, unhide HKE⟩
      · have e1 : (qa == 4) = false := by simpa using ea
        clear za
        go_upto_region 8 with fail
        go_ret
        exact ⟨rfl, unhide HKE⟩
    · have HXB := hide (fun h h0 => zb' ⟨h, h0⟩ : qb = 4 → yb ≠ 0)
      have HEQ3 := hide (unhide HEQ2 (unhide HXA) (unhide HXB))
      have HIA2 := hide (fun W k9 => unhide HIA (unhide HXA) W k9)
      have HIB2 := hide (fun W k9 => unhide HIB (unhide HXB) W k9)
      clear za zb' HIA HIB HEQ2
      generalize ndB k a = X at HEQ3 HIA2
      generalize ndB k b = Y at HEQ3 HIB2
      have HSAME := hide (fun W u v (hu : Rd W u X) (hv : Rd W v Y) => tsame_any u v X Y W hu hv)
      rw [unhide HEQ3] at HSAME
      generalize decide (ndL k a b) = E at HSAME HAL
      clear HEQ3
      have hae : (qa = 4 ∧ ((ya : Int) == 0) = false) ∨ ¬ qa = 4 := by
        by_cases ea : qa = 4
        · left; exact ⟨ea, by have := unhide HXA ea; simp; exact this⟩
        · right; exact ea
      have hbe : (qb = 4 ∧ ((yb : Int) == 0) = false) ∨ ¬ qb = 4 := by
        by_cases eb : qb = 4
        · left; exact ⟨eb, by have := unhide HXB eb; simp; exact this⟩
        · right; exact eb
      clear HXA HXB
      rcases hae with ⟨rfl, e2⟩ | e1 <;> rcases hbe with ⟨rfl, e4⟩ | e3
      all_goals
        go_upto_region 8 with fail
        go_wp2_with (refine wpList_load_mid rfl 56 (.tmp 4) rfl w.heap.size 0 rfl A _ (range_all (unhide NA5)) Tryd.underlying56 rfl (unhide HSA) ?_)
        refine Calls.mono (unhide HIA2 w5 (unhide HKE)) ?_
        rintro e w6 ⟨u6, rfl, r6, k6⟩
        have HR6 := hide r6
        have NA6 := hide (k6.heap (unhide NA5) (by simp))
        have NB6 := hide (k6.heap (unhide NB5) (by simp))
        have HKF := hide ((unhide HKE).trans k6 (by simp))
        clear r6 k6 c0 c67 d0 d67
        go_wp2_with (refine wpList_load_mid rfl 56 (.tmp 5) rfl (w.heap.size + 1) 0 rfl B _ (range_all (unhide NB6)) Tryd.underlying56 rfl (unhide HSB) ?_)
        refine Calls.mono (unhide HIB2 w6 (unhide HKF)) ?_
        rintro e w7 ⟨u7, rfl, r7, k7⟩
        have HR7 := hide r7
        have HR8 := hide ((unhide HR6).old k7 (by simp))
        have NA7 := hide (range_all (k7.heap (unhide NA6) (by simp)))
        have NB7 := hide (range_all (k7.heap (unhide NB6) (by simp)))
        have HKG := hide ((unhide HKF).trans k7 (by simp))
        clear r7 k7
        have HS7 := hide (fun W (kk : Kept [] w7 W) => (unhide HSAME W u6 u7 ((unhide HR8).old kk (by simp)) ((unhide HR7).old kk (by simp))).mono (fun e w2 (h2 : _ ∧ _) => (⟨h2.1, by rw [h2.2]; exact kk⟩ : _ ∧ Kept [] w7 w2)))
        have HL7 := hide (fun W (kk : Kept [] w7 W) => (unhide HAL W ((unhide HKG).trans kk (by simp))).mono (fun e w2 (h2 : _ ∧ _) => (⟨h2.1, kk.trans h2.2 (by simp)⟩ : _ ∧ Kept [] w7 w2)))
        clear HSAME HAL
        go_wp2_with fail
        have hnp : ∀ p : Prop, (∀ w', Kept [] w7 w' → p) = p := fun p => propext ⟨fun h => h w7 (Kept.refl [] w7), fun h _ _ => h⟩
        cases E
        all_goals
          refine wp_region_keep (by kernel_rfl) (by kernel_rfl) ?_
          iterate 7 (go_big_quiet_step (fail))
          go_big_quiet_want
          go_big_quiet_op
          apply Exists.intro
          refine ⟨fun w' hw' => ?_, ?_⟩
          · exact unhide HS7 w' hw'
          go_big_quiet_on
          iterate 1 (go_big_quiet_step (fail))
          refine wpQuiet_mid rfl 56 (.tmp 4) rfl w.heap.size 0 rfl A _ (fun w' hw' => range_kept (unhide NA7) hw' (by simp)) Tryd.underlying56 rfl (unhide HSA) ?_
          simp only [Act.put, List.setIfInBounds_toArray, List.set_cons_succ, List.set_cons_zero]
          refine wpQuiet_mid rfl 56 (.tmp 5) rfl (w.heap.size + 1) 0 rfl B _ (fun w' hw' => range_kept (unhide NB7) hw' (by simp)) Tryd.underlying56 rfl (unhide HSB) ?_
          simp only [Act.put, List.setIfInBounds_toArray, List.set_cons_succ, List.set_cons_zero]
          go_big_quiet_want
          go_big_quiet_op
          apply Exists.intro
          refine ⟨fun w' hw' => ?_, ?_⟩
          · exact unhide HL7 w' hw'
          go_big_quiet_on
          repeat (go_big_quiet_step (fail))
          refine wpQuiet_nil ?_
          intro w8 hw8
          have HK8 := hide ((unhide HKG).trans hw8 (by simp))
          clear hw8 hnp
          go_wp2
          go_ret
          exact ⟨rfl, unhide HK8⟩

theorem wholeTags_walk (n : Nat) (a b : OpD) (pa ka da pb kb db : Value) (w : World) (hn : n < 256) (ha : OkN w a pa ka da) (hb : OkN w b pb kb db) (hT : Tabs w) :
    Calls Tryd.prog 4 #[.int .u8 (n : Int), .agg (ndC a pa ka da).toArray, .agg (ndC b pb kb db).toArray] w fun e w' => e = .returned (.bool true) ∧ Below w.heap.size w w' :=
  (wholeTags_go n a b pa ka da pb kb db w hn ha hb hT).mono fun e w' h9 => ⟨h9.1, h9.2.below (Nat.le_refl _) (by simp)⟩
end Go.Proofs.YtbbjbpjpejekgaaDoor
namespace Go.Proofs.YtbbjbpjpejekgaaDoor
open Go.ChangeShapes Go.WideShapes Go.ChangeAt Go.RowKit Go.Deep
set_option linter.unusedVariables false
set_option linter.unusedSimpArgs false

theorem own : ownKnob Tryd.prog.godebug = none := by kernel_rfl
theorem laidOut : laidOutB Tryd.prog = true := by kernel_rfl
theorem byte_of_wf {x : Int} (h : (Lit.int .u8 x).wf = true) : 0 ≤ x ∧ x < 256 := by
  simp [Lit.wf, IntKind.min, IntKind.max, IntKind.signed, IntKind.bits] at h
  exact ⟨by omega, by omega⟩
theorem int_of_wf {x : Int} (h : (Lit.int .i64 x).wf = true) : -9223372036854775808 ≤ x ∧ x ≤ 9223372036854775807 := by
  simp [Lit.wf, IntKind.min, IntKind.max, IntKind.signed, IntKind.bits] at h
  exact ⟨by omega, by omega⟩

theorem bulk_one {H : Type} (d : DataW H) : 1 ≤ Rows.uptoBulk d := by
  cases d with
  | lit l => cases l <;> simp [Rows.uptoBulk]
  | nil => simp [Rows.uptoBulk]
  | ptr d => simp [Rows.uptoBulk]
  | slice elems spare => simp [Rows.uptoBulk]
  | agg parts => simp [Rows.uptoBulk]
  | iface t d => simp [Rows.uptoBulk]
  | map entries => simp [Rows.uptoBulk]
  | held h => simp [Rows.uptoBulk]
theorem bulk_len {H : Type} (l : List (DataW H)) : l.length ≤ Rows.uptoBulkAll l := by
  induction l with
  | nil => simp [Rows.uptoBulkAll]
  | cons x r ih => have := bulk_one x; simp only [Rows.uptoBulkAll, List.length_cons]; omega
theorem Tryd.bytes5 : Tryd.prog.bytesOf 5 = 1 := by kernel_rfl

section
variable {H : Type} {enc : TypeId × Value → H} {W : World}

/-- Bytes that came in, as the walks want them, of whatever length. -/
theorem open_bytes {fuel : Nat} {cs : List Value} {x : DataW H × List MemPlace} (h : DataW.trod enc Tryd.prog W 0 (fun _ => true) true fuel 24 cs = some x) :
    ∃ v bs, cs = [v] ∧ (bs.length ≤ 140737488355328 → Rd W v bs) ∧ ((bs = [] ∧ x.1 = .nil) ∨ ∃ elems spare, x.1 = .slice elems spare ∧ elems.length = bs.length) := by
  rcases open_ints Tryd.underlying24 Tryd.underlying5 (by kernel_rfl) h with ⟨rfl, rfl⟩ | ⟨a, len, cap, zs, rfl, _, hl, hm, hz, rfl, hcell, hwz⟩
  · exact ⟨_, [], rfl, fun _ => Rd.nil W, .inl ⟨rfl, rfl⟩⟩
  · have h2 : (lits (H := H) .u8 (zs.take len)).length = len := by simp only [lits, List.length_map, List.length_take]; simp at hz; omega
    have hbl : ((zs.take len).map Int.toNat).length = len := by simp at hz; simp; omega
    refine ⟨_, (zs.take len).map Int.toNat, rfl, fun hB => ⟨_, _, _, rfl, hbl, hl, ⟨by unfold maxLen at hm; omega, by omega⟩, by simp, ?_, ?_⟩, .inr ⟨_, _, rfl, by rw [h2, hbl]⟩⟩
    · intro y hy
      obtain ⟨z, hz1, rfl⟩ := List.mem_map.1 hy
      have := byte_of_wf (hwz z (List.mem_of_mem_take hz1)); omega
    · intro hp
      simp at hz
      have hc0 := hcell 0 (by omega)
      obtain ⟨b, off, spot⟩ := a
      have hspot : spot = none := by simpa [Addr.add] using World.cell?_spot hc0
      subst hspot
      refine ⟨b, off, rfl, fun i hi => ?_⟩
      have hc := hcell i (by omega)
      have hzi : i < zs.length := by omega
      rw [Addr.add_mid] at hc
      rw [hc]
      have hw := byte_of_wf (hwz (zs[i]) (List.getElem_mem hzi))
      simp only [List.getD_eq_getElem?_getD, List.getElem?_eq_getElem hzi, Option.getD_some, List.getElem?_map, List.getElem?_take, hi, if_true, Option.map_some]
      simp [u8]; omega
/-- Their length, by the reach. -/
theorem reach_bytes {ts : List TypeId} {ds : List (DataW H)} (h : (DataW.weightsEach Tryd.prog ts ds).all (· ≤ reachBytes) = true) {j : Nat} (ht : ts[j]? = some 24) {d : DataW H} (hd : ds[j]? = some d) {bs : List Nat}
    (hx : (bs = [] ∧ d = .nil) ∨ ∃ elems spare, d = .slice elems spare ∧ elems.length = bs.length) : bs.length ≤ 140737488351232 := by
  rcases hx with ⟨rfl, _⟩ | ⟨elems, spare, rfl, he⟩
  · simp
  · have := sized_slice h ht hd Tryd.underlying24
    rw [Tryd.bytes5, Nat.mul_one] at this
    unfold reachBytes at this
    omega
/-- Their length, by the bulk. -/
theorem bulk_bytes {d : DataW H} {bs : List Nat} (hx : (bs = [] ∧ d = .nil) ∨ ∃ elems spare, d = .slice elems spare ∧ elems.length = bs.length) : bs.length + 1 ≤ Rows.uptoBulk d := by
  rcases hx with ⟨rfl, rfl⟩ | ⟨elems, spare, rfl, he⟩
  · simp [Rows.uptoBulk]
  · have := bulk_len elems
    simp only [Rows.uptoBulk]; omega
end
end Go.Proofs.YtbbjbpjpejekgaaDoor
namespace Go.Proofs.YtbbjbpjpejekgaaDoor
open Go Go.RowKit
set_option linter.unusedVariables false
set_option linter.unusedSimpArgs false
section
variable {H : Type} {enc : TypeId × Value → H} {W : World}

def natOf : Value → Nat
  | .int _ n => n.toNat
  | _ => 0
/-- A digest that came in. -/
theorem open_dig {fuel : Nat} {cs : List Value} {x : DataW H × List MemPlace} (h : DataW.trod enc Tryd.prog W 0 (fun _ => true) true fuel 26 cs = some x) :
    ∃ l : List Nat, cs = l.map u8 ∧ l.length = 32 ∧ ∀ y ∈ l, y < 256 := by
  obtain ⟨xs, m, _, rfl, hl, hn, hc⟩ := DataW.trod_array Tryd.underlying26 h
  rw [show Tryd.prog.cellsOf 26 = 32 from by kernel_rfl] at hl
  rw [show Tryd.prog.cellsOf 5 = 1 from by kernel_rfl] at hc
  have key : ∀ i (hi : i < cs.length), cs[i] = u8 (natOf cs[i]) ∧ natOf cs[i] < 256 := by
    intro i hi
    have h1 := hc i (by omega)
    rw [Nat.mul_one, List.getElem?_eq_getElem (by omega)] at h1
    obtain ⟨n, e, _, hw⟩ := DataW.trod_int Tryd.underlying5 h1
    rw [List.drop_eq_getElem_cons hi, List.take_succ_cons, List.take_zero] at e
    simp only [List.cons.injEq, and_true] at e
    have := byte_of_wf hw
    rw [e]
    refine ⟨?_, ?_⟩
    · simp [u8, natOf]; omega
    · simp [natOf]; omega
  refine ⟨cs.map natOf, ?_, by simp [hl], ?_⟩
  · rw [List.map_map]
    refine List.ext_getElem (by simp) fun i h1 h2 => ?_
    rw [List.getElem_map]
    exact (key i h1).1
  · intro y hy
    obtain ⟨v, hv, rfl⟩ := List.mem_map.1 hy
    obtain ⟨i, hi, rfl⟩ := List.getElem_of_mem hv
    exact (key i hi).2
set_option maxRecDepth 100000 in
theorem open_digv {b0 : Nat} {v : Value} {d : DataW H} {ps : List MemPlace} (hv : Value.okWide Tryd.prog W .any b0 26 v) (h : DataW.Trod enc Tryd.prog W 0 (fun _ => true) true 26 v d ps) :
    ∃ l : List Nat, v = .agg (brow l) ∧ l.length = 32 ∧ ∀ y ∈ l, y < 256 := by
  unfold Value.okWide at hv
  rw [Tryd.underlying26] at hv
  obtain ⟨cs, rfl, _, _⟩ := hv
  obtain ⟨fuel, hf⟩ := h
  obtain ⟨l, e, h1, h2⟩ := open_dig hf
  refine ⟨l, ?_, h1, h2⟩
  simp only [Value.cells] at e
  unfold brow
  rw [← e]
end
end Go.Proofs.YtbbjbpjpejekgaaDoor
namespace Go.Proofs.YtbbjbpjpejekgaaDoor
open Go.ChangeShapes Go.WideShapes Go.ChangeAt Go.RowKit Go.Deep
set_option linter.unusedVariables false
set_option linter.unusedSimpArgs false
section
variable {H : Type} {enc : TypeId × Value → H} {W : World}

theorem o_bulk_part {d : DataW H} {l : List (DataW H)} (h : d ∈ l) : Rows.uptoBulk d ≤ Rows.uptoBulkAll l := by
  induction l with
  | nil => cases h
  | cons x r ih =>
    simp only [Rows.uptoBulkAll]
    cases List.mem_cons.1 h with
    | inl e => subst e; omega
    | inr e => have := ih e; omega
theorem o_split (cs : List Value) (a n : Nat) : cs.drop a = (cs.drop a).take n ++ cs.drop (a + n) := by
  rw [← List.drop_drop, List.take_append_drop]

/-- Digests that came in. -/
theorem open_digs {fuel : Nat} {cs : List Value} {x : DataW H × List MemPlace} (h : DataW.trod enc Tryd.prog W 0 (fun _ => true) true fuel 29 cs = some x) (hB : Rows.uptoBulk x.1 ≤ 1048576) :
    ∃ v ds, cs = [v] ∧ RdD W v ds := by
  rcases open_slice Tryd.underlying29 h with ⟨rfl, rfl⟩ | ⟨a, len, cap, m, n, D, Pl, rfl, _, hl, hm, hmm, rfl, hx⟩
  · exact ⟨_, [], rfl, none, 0, 0, rfl, rfl, Nat.le_refl _, by omega, fun d hd => by simp at hd, fun h => by omega⟩
  · have hC : Tryd.prog.cellsOf 26 = 32 := by kernel_rfl
    rw [hC] at hx
    simp only [if_true] at hmm
    simp only [Rows.uptoBulk] at hB
    have hcap : cap ≤ 1048576 := by
      have h1 := bulk_len ((List.range len).map D)
      have h2 := bulk_len ((List.range (m - len)).map fun j => D (len + j))
      simp at h1 h2
      omega
    obtain ⟨f, hf⟩ := choose_lt (α := List Nat) (n := len) (p := fun i o => (∀ j v, (o.map u8)[j]? = some v → W.cell? ((a.add (i * 32)).add j) = some v) ∧ o.length = 32 ∧ ∀ y ∈ o, y < 256) (by
      intro i hi
      obtain ⟨cs', h1, h2⟩ := hx i (by omega)
      obtain ⟨l, rfl, hl1, hl2⟩ := open_dig h2
      obtain ⟨_, hlen, hc⟩ := World.cells?_some h1
      refine ⟨l, fun j v hv => ?_, hl1, hl2⟩
      have hj := (List.getElem?_eq_some_iff.1 hv).1
      have := hc j (by rw [List.length_map] at hj; omega)
      rw [this, ← hv, List.getElem?_eq_getElem hj])
    refine ⟨_, (List.range len).map f, rfl, some a, len, cap, rfl, by simp, hl, by omega, ?_, ?_⟩
    · intro d hd
      obtain ⟨i, hi, rfl⟩ := List.mem_map.1 hd
      exact (hf i (List.mem_range.1 hi)).2
    · intro hp
      obtain ⟨b, off, spot⟩ := a
      have h0 := hf 0 hp
      have hc0 := h0.1 0 (u8 ((f 0).getD 0 0)) (by rw [List.getElem?_map, List.getD_eq_getElem?_getD, List.getElem?_eq_getElem (by omega)]; rfl)
      have hspot : spot = none := by simpa [Addr.add] using World.cell?_spot hc0
      subst hspot
      refine ⟨b, off, rfl, fun i hi j v hv => ?_⟩
      have e9 : ((List.range len).map f).getD i [] = f i := by simp [List.getD_eq_getElem?_getD, hi]
      rw [e9] at hv
      have := (hf i hi).1 j v hv
      rw [Addr.add_mid, Addr.add_mid] at this
      exact this

theorem k_flat_bulk (f : Nat → List Nat × List Nat) (D0 D1 : Nat → DataW H) (l : List Nat) (h : ∀ i ∈ l, (f i).1.length + 1 ≤ Rows.uptoBulk (D0 i) ∧ (f i).2.length + 1 ≤ Rows.uptoBulk (D1 i)) : kwt (l.map f) ≤ Rows.uptoBulkAll (l.map fun i => .agg [D0 i, D1 i]) := by
  induction l with
  | nil => simp [kwt]
  | cons a l ih =>
    have h1 := h a (by simp)
    have h2 := ih (fun i hi => h i (by simp [hi]))
    simp only [kwt, List.map_cons, List.sum_cons, Rows.uptoBulkAll, Rows.uptoBulk] at h2 ⊢
    omega
/-- Pairs that came in. -/
theorem open_pairs {fuel : Nat} {cs : List Value} {x : DataW H × List MemPlace} (h : DataW.trod enc Tryd.prog W 0 (fun _ => true) true fuel 27 cs = some x) (hB : Rows.uptoBulk x.1 ≤ 1048576) :
    ∃ v ps, cs = [v] ∧ RdK W v ps ∧ kwt ps ≤ 1048576 := by
  rcases open_slice_pairs Tryd.underlying27 Tryd.underlying75 (by kernel_rfl) rfl rfl (by kernel_rfl) (by kernel_rfl) h with ⟨rfl, rfl⟩ | ⟨a, len, cap, m, n, V0, V1, D0, D1, P0, P1, rfl, _, hl, hm, hmm, rfl, hx⟩
  · exact ⟨_, [], rfl, ⟨none, 0, 0, [], [], rfl, rfl, Nat.le_refl _, by omega, fun i h => by omega, fun h => by omega⟩, by simp [kwt]⟩
  · simp only [if_true] at hmm
    simp only [Rows.uptoBulk] at hB
    obtain ⟨f, hf⟩ := choose_lt (α := List Nat × List Nat) (n := len) (p := fun i o => (Rd W (V0 i) o.1 ∧ Rd W (V1 i) o.2) ∧ o.1.length + 1 ≤ Rows.uptoBulk (D0 i) ∧ o.2.length + 1 ≤ Rows.uptoBulk (D1 i)) (by
      intro i hi
      obtain ⟨_, _, h0, h1⟩ := hx i (by omega)
      have hDi : Rows.uptoBulk (.agg [D0 i, D1 i]) ≤ Rows.uptoBulkAll ((List.range len).map fun i => .agg [D0 i, D1 i]) := o_bulk_part (List.mem_map.2 ⟨i, List.mem_range.2 hi, rfl⟩)
      simp only [Rows.uptoBulk, Rows.uptoBulkAll] at hDi
      obtain ⟨v, bs, e0, hr0, hb0⟩ := open_bytes h0
      obtain ⟨v', bs', e1, hr1, hb1⟩ := open_bytes h1
      simp only [List.cons.injEq, and_true] at e0 e1
      subst e0
      subst e1
      have g0 := bulk_bytes hb0
      have g1 := bulk_bytes hb1
      exact ⟨(bs, bs'), ⟨hr0 (by simp only at g0; omega), hr1 (by simp only at g1; omega)⟩, g0, g1⟩)
    refine ⟨_, (List.range len).map f, rfl, ⟨some a, len, cap, (List.range len).map V0, (List.range len).map V1, rfl, by simp, hl, by unfold maxLen at hm; omega, ?_, ?_⟩, ?_⟩
    · intro i hi
      have hc := (hf i hi).1
      simpa [List.getD_eq_getElem?_getD, hi] using hc
    · intro hp
      obtain ⟨b, off, spot⟩ := a
      have hc0 := (hx 0 (by omega)).1
      have hspot : spot = none := by simpa [Addr.add] using World.cell?_spot hc0
      subst hspot
      refine ⟨b, off, rfl, fun i hi => ?_⟩
      have hc := hx i (by omega)
      rw [Addr.add_mid, Addr.add_mid] at hc
      have := And.intro hc.1 hc.2.1
      simpa [List.getD_eq_getElem?_getD, hi, Nat.add_assoc] using this
    · have := k_flat_bulk f D0 D1 (List.range len) (fun i hi => (hf i (List.mem_range.1 hi)).2)
      omega
theorem pairB_kwt (ps : List (List Nat × List Nat)) (h : kwt ps ≤ 1048576) : (pairB ps).length ≤ 10 * kwt ps := by
  induction ps with
  | nil => simp [pairB]
  | cons x r ih =>
    have e : pairB (x :: r) = uv x.1.length ++ x.1 ++ (uv x.2.length ++ x.2) ++ pairB r := by simp [pairB]
    have ek : kwt (x :: r) = x.1.length + x.2.length + 2 + kwt r := by simp [kwt]
    have h1 := ih (by omega)
    have u1 := uv_len x.1.length (by omega)
    have u2 := uv_len x.2.length (by omega)
    rw [e, ek]
    simp only [List.length_append]
    omega

/-- A Root that came in. -/
theorem open_root {fuel : Nat} {cs : List Value} {x : DataW H × List MemPlace} (h : DataW.trod enc Tryd.prog W 0 (fun _ => true) true fuel 32 cs = some x) :
    ∃ (s : Nat) (l m : List Nat), cs = rootC s l m ∧ s < 18446744073709551616 ∧ (l.length = 32 ∧ ∀ y ∈ l, y < 256) ∧ (m.length = 32 ∧ ∀ y ∈ m, y < 256) := by
  obtain ⟨xs, n, _, rfl, hl, hlen, hf⟩ := DataW.trod_struct Tryd.underlying32 h
  rw [show Tryd.prog.cellsOf 32 = 65 from by kernel_rfl] at hl
  match xs, hlen with
  | [y0, y1, y2], _ =>
    have cu : Tryd.prog.cellsOf 30 = 1 := by kernel_rfl
    have cd : Tryd.prog.cellsOf 26 = 32 := by kernel_rfl
    have f0 : DataW.trod enc Tryd.prog W 0 (fun _ => true) true n 30 ((cs.drop 0).take 1) = some y0 := by rw [← cu]; exact hf 0 _ rfl
    have f1 : DataW.trod enc Tryd.prog W 0 (fun _ => true) true n 26 ((cs.drop 1).take 32) = some y1 := by rw [← cd]; exact hf 1 _ rfl
    have f2 : DataW.trod enc Tryd.prog W 0 (fun _ => true) true n 26 ((cs.drop 33).take 32) = some y2 := by rw [← cd]; exact hf 2 _ rfl
    obtain ⟨k, e0, _, w0⟩ := DataW.trod_int Tryd.underlying30 f0
    obtain ⟨l, e1, l1, l2⟩ := open_dig f1
    obtain ⟨m, e2, m1, m2⟩ := open_dig f2
    have hw : 0 ≤ k ∧ k < 18446744073709551616 := by
      simp [Lit.wf, IntKind.min, IntKind.max, IntKind.signed, IntKind.bits] at w0
      omega
    refine ⟨k.toNat, l, m, ?_, by omega, ⟨l1, l2⟩, ⟨m1, m2⟩⟩
    have hd : cs.drop 65 = [] := List.drop_eq_nil_of_le (by omega)
    have := o_split cs 0 1
    rw [e0, o_split cs 1 32, e1, o_split cs 33 32, e2, hd, List.drop_zero] at this
    rw [this, rootC, Int.toNat_of_nonneg hw.1]
    simp

/-- An Op that came in. -/
theorem open_op {fuel : Nat} {cs : List Value} {x : DataW H × List MemPlace} (h : DataW.trod enc Tryd.prog W 0 (fun _ => true) true fuel 34 cs = some x) (hB : Rows.uptoBulk x.1 ≤ 1048576) :
    ∃ (o : OpD) (pv kv dv : Value), cs = opC o pv kv dv ∧ OkD W o pv kv dv := by
  obtain ⟨xs, n, _, rfl, hl, hlen, hf⟩ := DataW.trod_struct Tryd.underlying34 h
  rw [show Tryd.prog.cellsOf 34 = 135 from by kernel_rfl] at hl
  match xs, hlen with
  | [y0, y1, y2, y3, y4, y5, y6, y7, y8], _ =>
    have ci : Tryd.prog.cellsOf 3 = 1 := by kernel_rfl
    have cb : Tryd.prog.cellsOf 24 = 1 := by kernel_rfl
    have cd : Tryd.prog.cellsOf 26 = 32 := by kernel_rfl
    have cp : Tryd.prog.cellsOf 27 = 1 := by kernel_rfl
    have cu : Tryd.prog.cellsOf 28 = 1 := by kernel_rfl
    have ck : Tryd.prog.cellsOf 29 = 1 := by kernel_rfl
    have cr : Tryd.prog.cellsOf 32 = 65 := by kernel_rfl
    have f0 : DataW.trod enc Tryd.prog W 0 (fun _ => true) true n 3 ((cs.drop 0).take 1) = some y0 := by rw [← ci]; exact hf 0 _ rfl
    have f1 : DataW.trod enc Tryd.prog W 0 (fun _ => true) true n 3 ((cs.drop 1).take 1) = some y1 := by have this : DataW.trod enc Tryd.prog W 0 (fun _ => true) true n 3 ((cs.drop 1).take (Tryd.prog.cellsOf 3)) = some y1 := hf 1 _ rfl; rw [ci] at this; exact this
    have f2 : DataW.trod enc Tryd.prog W 0 (fun _ => true) true n 24 ((cs.drop 2).take 1) = some y2 := by have this : DataW.trod enc Tryd.prog W 0 (fun _ => true) true n 24 ((cs.drop 2).take (Tryd.prog.cellsOf 24)) = some y2 := hf 2 _ rfl; rw [cb] at this; exact this
    have f3 : DataW.trod enc Tryd.prog W 0 (fun _ => true) true n 26 ((cs.drop 3).take 32) = some y3 := by have this : DataW.trod enc Tryd.prog W 0 (fun _ => true) true n 26 ((cs.drop 3).take (Tryd.prog.cellsOf 26)) = some y3 := hf 3 _ rfl; rw [cd] at this; exact this
    have f4 : DataW.trod enc Tryd.prog W 0 (fun _ => true) true n 26 ((cs.drop 35).take 32) = some y4 := by have this : DataW.trod enc Tryd.prog W 0 (fun _ => true) true n 26 ((cs.drop 35).take (Tryd.prog.cellsOf 26)) = some y4 := hf 4 _ rfl; rw [cd] at this; exact this
    have f5 : DataW.trod enc Tryd.prog W 0 (fun _ => true) true n 27 ((cs.drop 67).take 1) = some y5 := by have this : DataW.trod enc Tryd.prog W 0 (fun _ => true) true n 27 ((cs.drop 67).take (Tryd.prog.cellsOf 27)) = some y5 := hf 5 _ rfl; rw [cp] at this; exact this
    have f6 : DataW.trod enc Tryd.prog W 0 (fun _ => true) true n 28 ((cs.drop 68).take 1) = some y6 := by have this : DataW.trod enc Tryd.prog W 0 (fun _ => true) true n 28 ((cs.drop 68).take (Tryd.prog.cellsOf 28)) = some y6 := hf 6 _ rfl; rw [cu] at this; exact this
    have f7 : DataW.trod enc Tryd.prog W 0 (fun _ => true) true n 29 ((cs.drop 69).take 1) = some y7 := by have this : DataW.trod enc Tryd.prog W 0 (fun _ => true) true n 29 ((cs.drop 69).take (Tryd.prog.cellsOf 29)) = some y7 := hf 7 _ rfl; rw [ck] at this; exact this
    have f8 : DataW.trod enc Tryd.prog W 0 (fun _ => true) true n 32 ((cs.drop 70).take 65) = some y8 := by have this : DataW.trod enc Tryd.prog W 0 (fun _ => true) true n 32 ((cs.drop 70).take (Tryd.prog.cellsOf 32)) = some y8 := hf 8 _ rfl; rw [cr] at this; exact this
    simp only [List.map_cons, List.map_nil, Rows.uptoBulk, Rows.uptoBulkAll] at hB
    obtain ⟨k, e0, _, w0⟩ := DataW.trod_int Tryd.underlying3 f0
    obtain ⟨z, e1, _, w1⟩ := DataW.trod_int Tryd.underlying3 f1
    obtain ⟨pv, p, e2, hr2, hb2⟩ := open_bytes f2
    have g2 := bulk_bytes hb2
    obtain ⟨l, e3, l1, l2⟩ := open_dig f3
    obtain ⟨r, e4, r1, r2⟩ := open_dig f4
    obtain ⟨kv, ps, e5, hps, hkw⟩ := open_pairs f5 (by omega)
    obtain ⟨xb, e6, _, w6⟩ := DataW.trod_int Tryd.underlying28 f6
    obtain ⟨dv, ds, e7, hds⟩ := open_digs f7 (by omega)
    obtain ⟨s, lg, mp, e8, s1, g1', m1'⟩ := open_root f8
    have hx : 0 ≤ xb ∧ xb < 65536 := by
      simp [Lit.wf, IntKind.min, IntKind.max, IntKind.signed, IntKind.bits] at w6
      omega
    have hpk := pairB_kwt ps hkw
    refine ⟨⟨k, z, p, l, r, ps, xb.toNat, ds, s, lg, mp⟩, pv, kv, dv, ?_, ⟨int_of_wf w0, int_of_wf w1, hr2 (by omega), by show p.length ≤ _; omega, ⟨l1, l2⟩, ⟨r1, r2⟩, hps, by show (pairB ps).length ≤ _; omega, by show xb.toNat < _; omega, hds, s1, g1', m1'⟩⟩
    have hd : cs.drop 135 = [] := List.drop_eq_nil_of_le (by omega)
    have this := o_split cs 0 1
    rw [e0, o_split cs 1 1, e1, o_split cs 2 1, e2, o_split cs 3 32, e3, o_split cs 35 32, e4, o_split cs 67 1, e5, o_split cs 68 1, e6, o_split cs 69 1, e7, o_split cs 70 65, e8, hd, List.drop_zero] at this
    rw [this]
    simp [opC, Int.toNat_of_nonneg hx.1]

instance : Inhabited OpD := ⟨⟨0, 0, [], [], [], [], 0, [], 0, [], []⟩⟩
/-- Ops that came in. -/
theorem open_ops {fuel : Nat} {cs : List Value} {x : DataW H × List MemPlace} (h : DataW.trod enc Tryd.prog W 0 (fun _ => true) true fuel 22 cs = some x) (hB : Rows.uptoBulk x.1 ≤ 1048576) :
    ∃ v os, cs = [v] ∧ RdO W v os := by
  rcases open_slice Tryd.underlying22 h with ⟨rfl, rfl⟩ | ⟨a, len, cap, m, n, D, Pl, rfl, _, hl, hm, hmm, rfl, hx⟩
  · exact ⟨_, [], rfl, none, 0, 0, fun _ => undef, fun _ => undef, fun _ => undef, rfl, rfl, Nat.le_refl _, by omega, fun i hi => by simp at hi, fun h => by omega⟩
  · have hC : Tryd.prog.cellsOf 34 = 135 := by kernel_rfl
    rw [hC] at hx
    simp only [if_true] at hmm
    simp only [Rows.uptoBulk] at hB
    obtain ⟨f, hf⟩ := choose_lt (α := OpD × Value × Value × Value) (n := len) (p := fun i o => (∀ j v, (opC o.1 o.2.1 o.2.2.1 o.2.2.2)[j]? = some v → W.cell? ((a.add (i * 135)).add j) = some v) ∧ OkD W o.1 o.2.1 o.2.2.1 o.2.2.2) (by
      intro i hi
      obtain ⟨cs', h1, h2⟩ := hx i (by omega)
      have hDi : Rows.uptoBulk (D i) ≤ Rows.uptoBulkAll ((List.range len).map D) := o_bulk_part (List.mem_map.2 ⟨i, List.mem_range.2 hi, rfl⟩)
      obtain ⟨o, pv, kv, dv, rfl, ho⟩ := open_op h2 (by simp only; omega)
      obtain ⟨_, hlen, hc⟩ := World.cells?_some h1
      refine ⟨(o, pv, kv, dv), fun j v hv => ?_, ho⟩
      have hj := (List.getElem?_eq_some_iff.1 hv).1
      have := hc j (by have h9 := opC_len (pv := pv) (kv := kv) (dv := dv) ho.l.1 ho.r.1 ho.lg.1 ho.mp.1; rw [h9] at hj; exact hj)
      rw [this, ← hv, List.getElem?_eq_getElem hj])
    refine ⟨_, (List.range len).map fun i => (f i).1, rfl, some a, len, cap, fun i => (f i).2.1, fun i => (f i).2.2.1, fun i => (f i).2.2.2, rfl, by simp, hl, by unfold maxLen at hm; omega, ?_, ?_⟩
    · intro i hi
      have hi' : i < len := by simpa using hi
      have := (hf i hi').2
      simpa using this
    · intro hp
      obtain ⟨b, off, spot⟩ := a
      have h0 := hf 0 hp
      have hc0 := h0.1 0 _ rfl
      have hspot : spot = none := by simpa [Addr.add] using World.cell?_spot hc0
      subst hspot
      refine ⟨b, off, rfl, fun i hi j v hv => ?_⟩
      have hi' : i < len := by simpa using hi
      have e9 : ((List.range len).map fun i => (f i).1)[i] = (f i).1 := by simp
      rw [e9] at hv
      have := (hf i hi').1 j v hv
      rw [Addr.add_mid, Addr.add_mid] at this
      exact this
end
end Go.Proofs.YtbbjbpjpejekgaaDoor
namespace Go.Proofs.YtbbjbpjpejekgaaDoor
open Go.ChangeShapes Go.WideShapes Go.ChangeAt Go.RowKit Go.Deep
set_option linter.unusedVariables false
set_option linter.unusedSimpArgs false
def znd : Array Value := (ndC ⟨0, 0, [], List.replicate 32 0, List.replicate 32 0, [], 0, [], 0, List.replicate 32 0, List.replicate 32 0⟩ (.slice none 0 0) (.slice none 0 0) (.slice none 0 0)).toArray
section
variable {H : Type} {enc : TypeId × Value → H} {W : World}

/-- A Node that came in. -/
theorem open_nd {fuel : Nat} {cs : List Value} {x : DataW H × List MemPlace} (h : DataW.trod enc Tryd.prog W 0 (fun _ => true) true fuel 56 cs = some x) (hB : Rows.uptoBulk x.1 ≤ 1048576) :
    ∃ (o : OpD) (pv kv dv : Value), cs = ndC o pv kv dv ∧ OkN W o pv kv dv := by
  obtain ⟨xs, n, _, rfl, hl, hlen, hf⟩ := DataW.trod_struct Tryd.underlying56 h
  rw [show Tryd.prog.cellsOf 56 = 134 from by kernel_rfl] at hl
  match xs, hlen with
  | [y0, y2, y3, y4, y5, y6, y7, y8], _ =>
    have ci : Tryd.prog.cellsOf 5 = 1 := by kernel_rfl
    have cb : Tryd.prog.cellsOf 24 = 1 := by kernel_rfl
    have cd : Tryd.prog.cellsOf 26 = 32 := by kernel_rfl
    have cp : Tryd.prog.cellsOf 27 = 1 := by kernel_rfl
    have cu : Tryd.prog.cellsOf 28 = 1 := by kernel_rfl
    have ck : Tryd.prog.cellsOf 29 = 1 := by kernel_rfl
    have cr : Tryd.prog.cellsOf 32 = 65 := by kernel_rfl
    have f0 : DataW.trod enc Tryd.prog W 0 (fun _ => true) true n 5 ((cs.drop 0).take 1) = some y0 := by rw [← ci]; exact hf 0 _ rfl
    have f2 : DataW.trod enc Tryd.prog W 0 (fun _ => true) true n 24 ((cs.drop 1).take 1) = some y2 := by have this : DataW.trod enc Tryd.prog W 0 (fun _ => true) true n 24 ((cs.drop 1).take (Tryd.prog.cellsOf 24)) = some y2 := hf 1 _ rfl; rw [cb] at this; exact this
    have f3 : DataW.trod enc Tryd.prog W 0 (fun _ => true) true n 26 ((cs.drop 2).take 32) = some y3 := by have this : DataW.trod enc Tryd.prog W 0 (fun _ => true) true n 26 ((cs.drop 2).take (Tryd.prog.cellsOf 26)) = some y3 := hf 2 _ rfl; rw [cd] at this; exact this
    have f4 : DataW.trod enc Tryd.prog W 0 (fun _ => true) true n 26 ((cs.drop 34).take 32) = some y4 := by have this : DataW.trod enc Tryd.prog W 0 (fun _ => true) true n 26 ((cs.drop 34).take (Tryd.prog.cellsOf 26)) = some y4 := hf 3 _ rfl; rw [cd] at this; exact this
    have f5 : DataW.trod enc Tryd.prog W 0 (fun _ => true) true n 27 ((cs.drop 66).take 1) = some y5 := by have this : DataW.trod enc Tryd.prog W 0 (fun _ => true) true n 27 ((cs.drop 66).take (Tryd.prog.cellsOf 27)) = some y5 := hf 4 _ rfl; rw [cp] at this; exact this
    have f6 : DataW.trod enc Tryd.prog W 0 (fun _ => true) true n 28 ((cs.drop 67).take 1) = some y6 := by have this : DataW.trod enc Tryd.prog W 0 (fun _ => true) true n 28 ((cs.drop 67).take (Tryd.prog.cellsOf 28)) = some y6 := hf 5 _ rfl; rw [cu] at this; exact this
    have f7 : DataW.trod enc Tryd.prog W 0 (fun _ => true) true n 29 ((cs.drop 68).take 1) = some y7 := by have this : DataW.trod enc Tryd.prog W 0 (fun _ => true) true n 29 ((cs.drop 68).take (Tryd.prog.cellsOf 29)) = some y7 := hf 6 _ rfl; rw [ck] at this; exact this
    have f8 : DataW.trod enc Tryd.prog W 0 (fun _ => true) true n 32 ((cs.drop 69).take 65) = some y8 := by have this : DataW.trod enc Tryd.prog W 0 (fun _ => true) true n 32 ((cs.drop 69).take (Tryd.prog.cellsOf 32)) = some y8 := hf 7 _ rfl; rw [cr] at this; exact this
    simp only [List.map_cons, List.map_nil, Rows.uptoBulk, Rows.uptoBulkAll] at hB
    obtain ⟨k, e0, _, w0⟩ := DataW.trod_int Tryd.underlying5 f0
    obtain ⟨pv, p, e2, hr2, hb2⟩ := open_bytes f2
    have g2 := bulk_bytes hb2
    obtain ⟨l, e3, l1, l2⟩ := open_dig f3
    obtain ⟨r, e4, r1, r2⟩ := open_dig f4
    obtain ⟨kv, ps, e5, hps, hkw⟩ := open_pairs f5 (by omega)
    obtain ⟨xb, e6, _, w6⟩ := DataW.trod_int Tryd.underlying28 f6
    obtain ⟨dv, ds, e7, hds⟩ := open_digs f7 (by omega)
    obtain ⟨s, lg, mp, e8, s1, g1', m1'⟩ := open_root f8
    have hk0 : 0 ≤ k ∧ k < 256 := by
      simp [Lit.wf, IntKind.min, IntKind.max, IntKind.signed, IntKind.bits] at w0
      omega
    have hx : 0 ≤ xb ∧ xb < 65536 := by
      simp [Lit.wf, IntKind.min, IntKind.max, IntKind.signed, IntKind.bits] at w6
      omega
    have hpk := pairB_kwt ps hkw
    refine ⟨⟨k, 0, p, l, r, ps, xb.toNat, ds, s, lg, mp⟩, pv, kv, dv, ?_, ⟨⟨by show -9223372036854775808 ≤ k ∧ k ≤ 9223372036854775807; omega, by show -9223372036854775808 ≤ (0 : Int) ∧ (0 : Int) ≤ 9223372036854775807; omega, hr2 (by omega), by show p.length ≤ _; omega, ⟨l1, l2⟩, ⟨r1, r2⟩, hps, by show (pairB ps).length ≤ _; omega, by show xb.toNat < _; omega, hds, s1, g1', m1'⟩, hk0⟩⟩
    have hd : cs.drop 134 = [] := List.drop_eq_nil_of_le (by omega)
    have this := o_split cs 0 1
    rw [e0, o_split cs 1 1, e2, o_split cs 2 32, e3, o_split cs 34 32, e4, o_split cs 66 1, e5, o_split cs 67 1, e6, o_split cs 68 1, e7, o_split cs 69 65, e8, hd, List.drop_zero] at this
    rw [this]
    simp [ndC, Int.toNat_of_nonneg hx.1]


set_option maxRecDepth 100000 in
theorem open_ndv {b0 : Nat} {v : Value} {d : DataW H} {ps : List MemPlace} (hv : Value.okWide Tryd.prog W .any b0 56 v) (h : DataW.Trod enc Tryd.prog W 0 (fun _ => true) true 56 v d ps) (hB : Rows.uptoBulk d ≤ 1048576) :
    ∃ (o : OpD) (pv kv dv : Value), v = .agg (ndC o pv kv dv).toArray ∧ OkN W o pv kv dv := by
  unfold Value.okWide at hv
  rw [Tryd.underlying56] at hv
  obtain ⟨cs, rfl, _, _⟩ := hv
  obtain ⟨fuel, hf⟩ := h
  obtain ⟨o, pv, kv, dv, e, h1⟩ := open_nd hf hB
  refine ⟨o, pv, kv, dv, ?_, h1⟩
  simp only [Value.cells] at e
  rw [← e]
end
end Go.Proofs.YtbbjbpjpejekgaaDoor
