import Derived.Test.YtgnbigijpneebaaDoorDSame
namespace Go.Proofs.YtgnbigijpneebaaDoor
open Go.RowKit Go.BigFrame
set_option linter.unusedVariables false
set_option linter.unusedSimpArgs false

set_option maxRecDepth 100000 in
set_option maxHeartbeats 2000000 in
theorem sameOp_any (a b : OpD) (pa ka da pb kb db : Value) (w : World) (ha : OkD w a pa ka da) (hb : OkD w b pb kb db) (hk : 1 ≤ a.kd ∧ a.kd ≤ 6) :
    Calls Tryd.prog 25 #[.agg (opC a pa ka da).toArray, .agg (opC b pb kb db).toArray] w fun e w' => e = .returned (.bool (decide (sameD a b))) ∧ Kept [] w w' := by
  have HA := hide ha
  have HB := hide hb
  obtain ⟨A, hA⟩ : ∃ C, (opC a pa ka da).toArray = C := ⟨_, rfl⟩
  obtain ⟨B, hB⟩ : ∃ C, (opC b pb kb db).toArray = C := ⟨_, rfl⟩
  have HGA := hide (((Kept.refl [] (w.alloc (.cells A 34))).alloc (.cells B 34)).heap (heap_alloc_new w (.cells A 34)) (by simp))
  have HGB := hide (alloc_at w (.cells A 34) (.cells B 34))
  have HK0 := hide (((Kept.refl [] w).alloc (.cells A 34)).alloc (.cells B 34))
  have hx := op_cells (w := (w.alloc (.cells A 34)).alloc (.cells B 34)) (g := w.heap.size) (t := 34) (fr := (0, 0)) (o := a) (pv := pa) (kv := ka) (dv := da) (by rw [hA]; exact unhide HGA) ha.l.1 ha.r.1
  have hy := op_cells (w := (w.alloc (.cells A 34)).alloc (.cells B 34)) (g := w.heap.size + 1) (t := 34) (fr := (0, 0)) (o := b) (pv := pb) (kv := kb) (dv := db) (by rw [hB]; exact unhide HGB) hb.l.1 hb.r.1
  rw [hA, hB]
  clear hA hB HGA HGB
  obtain ⟨⟨c0, c1, c2⟩, r3, r35, ⟨c67, c68, c69⟩, r70⟩ := hx
  obtain ⟨⟨d0, d1, d2⟩, s3, s35, ⟨d67, d68, d69⟩, s70⟩ := hy
  have HAO := hide (ha.old (unhide HK0))
  have HBO := hide (hb.old (unhide HK0))
  clear ha hb
  go_enter Tryd.func25, Tryd.ntmps25
  have R3 := hide r3
  have R35 := hide r35
  have R70 := hide r70
  have S3 := hide s3
  have S35 := hide s35
  have S70 := hide s70
  clear r3 r35 r70 s3 s35 s70
  obtain ⟨D, hD⟩ : ∃ D, decide (sameD a b) = D := ⟨_, rfl⟩
  have HD := hide hD
  rw [hD]
  clear hD
  rcases (by omega : a.kd = 1 ∨ a.kd = 2 ∨ a.kd = 3 ∨ a.kd = 4 ∨ a.kd = 5 ∨ a.kd = 6) with hkd | hkd | hkd | hkd | hkd | hkd
  · rw [hkd] at c0
    have HD2 := hide (by rw [← unhide HD]; simp [sameD, hkd] : D = decide (a.p = b.p))
    clear hkd hk
    go_wp2_with fail
    refine Calls.mono (same_any _ _ a.p b.p _ (unhide HAO).p (unhide HBO).p) ?_
    rintro e w1 ⟨rfl, n1, rfl⟩
    rw [← unhide HD2]
    go_wp2
    go_ret
    exact ⟨rfl, (unhide HK0).drewN n1⟩
  · rw [hkd] at c0
    have HD2 := hide (by rw [← unhide HD]; simp [sameD, hkd] : D = (decide (a.l = b.l) && decide (a.r = b.r)))
    clear hkd hk
    have HZ1 := hide (by rw [List.length_map, (unhide HA).l.1]; exact Tryd.size_dig : (Tryd.prog.info? 26).map (·.size) = some (a.l.map u8).length)
    have HZ2 := hide (by rw [List.length_map, (unhide HA).r.1]; exact Tryd.size_dig : (Tryd.prog.info? 26).map (·.size) = some (a.r.map u8).length)
    have HZ3 := hide (by rw [List.length_map, (unhide HB).l.1]; exact Tryd.size_dig : (Tryd.prog.info? 26).map (·.size) = some (b.l.map u8).length)
    have HZ4 := hide (by rw [List.length_map, (unhide HB).r.1]; exact Tryd.size_dig : (Tryd.prog.info? 26).map (·.size) = some (b.r.map u8).length)
    have hq1 : ∀ W, (Op.equalIn 10000 26 (.agg (a.l.map u8).toArray) (.agg (b.l.map u8).toArray)).run Tryd.prog W = .ok (decide (a.l = b.l)) W := fun W => dig_eq W a.l b.l (unhide HA).l.1 (unhide HB).l.1
    have hq2 : ∀ W, (Op.equalIn 10000 26 (.agg (a.r.map u8).toArray) (.agg (b.r.map u8).toArray)).run Tryd.prog W = .ok (decide (a.r = b.r)) W := fun W => dig_eq W a.r b.r (unhide HA).r.1 (unhide HB).r.1
    generalize decide (a.l = b.l) = X at hq1 HD2
    generalize decide (a.r = b.r) = Y at hq2 HD2
    cases X <;> cases Y <;>
    (go_wp2_with (first
      | (refine wpList_load_midG rfl 26 _ rfl w.heap.size 3 rfl (a.l.map u8) _ (unhide R3) Tryd.underlying26 rfl (unhide HZ1) ?_)
      | (refine wpList_load_midG rfl 26 _ rfl (w.heap.size + 1) 3 rfl (b.l.map u8) _ (unhide S3) Tryd.underlying26 rfl (unhide HZ3) ?_)
      | (refine wpList_load_midG rfl 26 _ rfl w.heap.size 35 rfl (a.r.map u8) _ (unhide R35) Tryd.underlying26 rfl (unhide HZ2) ?_)
      | (refine wpList_load_midG rfl 26 _ rfl (w.heap.size + 1) 35 rfl (b.r.map u8) _ (unhide S35) Tryd.underlying26 rfl (unhide HZ4) ?_))
     go_ret
     exact ⟨by rw [unhide HD2]; rfl, unhide HK0⟩)
  · rw [hkd] at c0
    have HD2 := hide (by rw [← unhide HD]; simp [sameD, hkd] : D = decide (a.p = b.p))
    clear hkd hk
    go_wp2_with fail
    refine Calls.mono (same_any _ _ a.p b.p _ (unhide HAO).p (unhide HBO).p) ?_
    rintro e w1 ⟨rfl, n1, rfl⟩
    rw [← unhide HD2]
    go_wp2
    go_ret
    exact ⟨rfl, (unhide HK0).drewN n1⟩
  · rw [hkd] at c0
    have HD2 := hide (by rw [← unhide HD]; simp [sameD, hkd] : D = decide (a.ps = b.ps))
    clear hkd hk
    go_wp2_with fail
    refine Calls.mono (samePairs_any _ _ a.ps b.ps _ (unhide HAO).ps (unhide HBO).ps) ?_
    rintro e w1 ⟨rfl, k1⟩
    rw [← unhide HD2]
    have HK1 := hide ((unhide HK0).trans k1 (by simp))
    clear k1
    go_wp2
    go_ret
    exact ⟨rfl, unhide HK1⟩
  · rw [hkd] at c0
    have HD2 := hide (by rw [← unhide HD]; simp [sameD, hkd] : D = (decide (a.x = b.x) && decide (a.ds = b.ds)))
    clear hkd hk
    by_cases hx : a.x = b.x
    · have hxe : ((a.x : Int) == (b.x : Int)) = true := by rw [hx]; simp
      have HX := hide (decide_eq_true hx)
      clear hx
      go_wp2_with fail
      refine Calls.mono (sameKids_any _ _ a.ds b.ds _ (unhide HAO).ds (unhide HBO).ds) ?_
      rintro e w1 ⟨rfl, k1⟩
      have HK1 := hide ((unhide HK0).trans k1 (by simp))
      clear k1
      go_wp2
      go_ret
      exact ⟨by rw [unhide HD2, unhide HX]; rfl, unhide HK1⟩
    · have hxe : ((a.x : Int) == (b.x : Int)) = false := by rw [beq_eq_false_iff_ne]; omega
      have HX := hide (decide_eq_false hx)
      clear hx
      go_wp2
      go_ret
      exact ⟨by rw [unhide HD2, unhide HX]; rfl, unhide HK0⟩
  · rw [hkd] at c0
    have HD2 := hide (by rw [← unhide HD]; simp [sameD, hkd] : D = decide (a.s = b.s ∧ a.lg = b.lg ∧ a.mp = b.mp))
    clear hkd hk
    have HZ1 := hide (by rw [show (rootC a.s a.lg a.mp).length = 65 by simp [rootC, (unhide HA).lg.1, (unhide HA).mp.1]]; kernel_rfl : (Tryd.prog.info? 32).map (·.size) = some (rootC a.s a.lg a.mp).length)
    have HZ2 := hide (by rw [show (rootC b.s b.lg b.mp).length = 65 by simp [rootC, (unhide HB).lg.1, (unhide HB).mp.1]]; kernel_rfl : (Tryd.prog.info? 32).map (·.size) = some (rootC b.s b.lg b.mp).length)
    have hq1 : ∀ W, (Op.equalIn 10000 32 (.agg (rootC a.s a.lg a.mp).toArray) (.agg (rootC b.s b.lg b.mp).toArray)).run Tryd.prog W = .ok (decide (a.s = b.s ∧ a.lg = b.lg ∧ a.mp = b.mp)) W := fun W => root_eq W _ _ _ _ _ _ (unhide HA).lg.1 (unhide HA).mp.1 (unhide HB).lg.1 (unhide HB).mp.1
    rw [← unhide HD2] at hq1
    generalize (rootC a.s a.lg a.mp) = RA at hq1 HZ1 R70
    generalize (rootC b.s b.lg b.mp) = RB at hq1 HZ2 S70
    go_wp2_with (first
      | (refine wpList_load_midG rfl 32 _ rfl w.heap.size 70 rfl RA _ (unhide R70) Tryd.underlying32 rfl (unhide HZ1) ?_)
      | (refine wpList_load_midG rfl 32 _ rfl (w.heap.size + 1) 70 rfl RB _ (unhide S70) Tryd.underlying32 rfl (unhide HZ2) ?_))
    go_ret
    exact ⟨rfl, unhide HK0⟩
end Go.Proofs.YtgnbigijpneebaaDoor
