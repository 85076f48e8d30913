import Derived.Test.YtnepbjnemgebiabLRun0
namespace Go.Proofs.Ytnepbjnemgebiab
open Go.RowKit Go.BigFrame
set_option linter.unusedVariables false
set_option linter.unusedSimpArgs false

set_option maxRecDepth 100000 in
set_option maxHeartbeats 2000000 in
theorem frameRuns_walk (v : Value) (ps : List (Nat × List Nat)) (z y : Int) (w : World) (h : RdP w v ps) (hl : pwt ps ≤ 1048576) (hz : -9223372036854775808 ≤ z ∧ z ≤ 9223372036854775807) (hy : -9223372036854775808 ≤ y ∧ y ≤ 9223372036854775807) :
    Calls Try.prog 5 #[v, .int .i64 z, .int .i64 y] w fun e w' => e = .returned (.bool true) ∧ Below w.heap.size w w' := by
  have H := hide h
  obtain ⟨ao, len, cap, vs, rfl, h1, h2, h3, h4, h5, h6⟩ := h
  have H5 := hide h5
  have H6 := hide h6
  clear h5 h6
  subst h1
  go_enter Try.func5, Try.ntmps5
  go_wp2_with fail
  refine Calls.mono (fawake_any _) ?_
  rintro e w1 ⟨rfl, k1⟩
  have HK1 := hide k1
  clear k1
  go_wp2_with fail
  go_loopw [21] (fun t21 wr => ∃ (i : Nat), i ≤ ps.length ∧ t21 = .int .i64 i ∧ Hid (okP (ps.take i)) ∧ Hid (Kept [] w wr)) (fun t _ => ps.length - (intOf t).toNat)
  case atStart => exact ⟨0, Nat.zero_le _, rfl, hide (by intro x hx; simp at hx), HK1⟩
  case round =>
    obtain ⟨i, hi, rfl, HOi, HK⟩ := hrel
    by_cases hlt : i < ps.length
    · have hlt' : (i : Int) < ps.length := by omega
      obtain ⟨b, off, rfl, hcc⟩ := unhide H6 (by omega)
      have q1 := (unhide HK).cell (hcc i hlt).1 (by simp)
      have q2 := (unhide HK).cell (hcc i hlt).2 (by simp)
      have HA := hide ((unhide H5 i hlt).1.old (unhide HK) (by simp))
      have hpl := (unhide H5 i hlt).2
      have hget : ps.getD i (0, []) = ps[i] := by rw [List.getD_eq_getElem?_getD, List.getElem?_eq_getElem hlt]; rfl
      rw [hget] at q1 HA hpl
      have HNX := hide (fun (h1 : 0 < ps[i].2.length) (h2 : ps[i].2.length ≤ 65535) (hb : ∀ y ∈ ps[i].2, y < 256) => by
        intro x hx
        rw [List.take_succ_eq_append_getElem hlt] at hx
        rcases List.mem_append.1 hx with h | h
        · exact unhide HOi x h
        · rw [List.mem_singleton] at h; subst h; exact ⟨hpl, h1, h2, hb⟩ : 0 < ps[i].2.length → ps[i].2.length ≤ 65535 → (∀ y ∈ ps[i].2, y < 256) → okP (ps.take (i + 1)))
      clear hcc hget
      generalize vs.getD i undef = vi at q2 HA
      generalize ps[i] = pi at q1 HA hpl HNX
      obtain ⟨pl, pay⟩ := pi
      simp only at q1 HA hpl HNX
      obtain ⟨a8, m8, c8, rfl, hm8, _⟩ := id (unhide HA)
      subst hm8
      go_wp2_with fail
      refine Calls.mono (fits_any _ pay _ ((unhide HA).old ((Kept.refl [] wr).alloc _) (by simp))) ?_
      rintro e w4 ⟨rfl, rfl⟩
      have HK4 := hide ((unhide HK).alloc (.cells #[.int .u64 (pl : Int), .slice a8 pay.length c8] 25))
      by_cases hf : 0 < pay.length ∧ pay.length ≤ 65535
      · rw [decide_eq_true hf]
        have HO2 := hide (unhide HNX hf.1 hf.2 (unhide HA).byte)
        go_wp2
        refine ⟨⟨i + 1, by omega, by go_num, HO2, HK4⟩, ?_⟩
        simp [intOf]; omega
      · rw [decide_eq_false hf]
        go_wp2
        go_ret
        exact ⟨rfl, (unhide HK4).below (Nat.le_refl _) (by simp)⟩
    · have hlt' : ¬ (i : Int) < ps.length := by omega
      have hie : i = ps.length := by omega
      subst hie
      rw [List.take_length] at HOi
      have hrl : (runB ps).length ≤ 18874368 := by have := runB_pwt ps; omega
      go_wp2_with fail
      refine Calls.mono (laid_any _ ps wr ((unhide H).old (unhide HK)) (unhide HOi) (by omega)) ?_
      rintro e w5 ⟨v5, rfl, r5, k5⟩
      have HR5 := hide r5
      have HK5 := hide ((unhide HK).trans k5 (by simp))
      obtain ⟨a5, m5, c5, hu5, hm5, _⟩ := id r5
      subst hu5
      subst hm5
      clear r5 k5
      go_wp2_with fail
      refine Calls.mono (made_any 1 _ [5, 6, 7] _ (rd_lit (heap_alloc_new _ _) rfl (by decide) 3 rfl (by decide)) (by decide)) ?_
      rintro e w6 ⟨v6, rfl, n6, k6⟩
      rw [show encE [5, 6, 7] = 0 by decide]
      rw [show encB 1 [5, 6, 7] = frB 1 [5, 6, 7] from rfl] at n6
      have k56 := ((Kept.refl [] w5).alloc _).trans k6 (by simp)
      have HR6 := hide ((unhide HR5).old k56 (by simp))
      have HK6 := hide ((unhide HK5).trans k56 (by simp))
      have HL6 := hide n6.1
      have hfl : (frB 1 [5, 6, 7]).length = 21 := by rw [frB_len]; rfl
      obtain ⟨a6, m6, c6, hu6, hm6, hq6, ⟨hq7, _⟩, _⟩ := id n6.1
      rw [hfl] at hm6
      subst hu6
      subst hm6
      clear k6 n6 k56
      by_cases q1 : z < 0
      · go_wp2_with fail
        have HT0 := hide (show Rd w6 (.slice a6 0 c6) [] from (show Rd w6 (.slice a6 (frB 1 [5, 6, 7]).length c6) (frB 1 [5, 6, 7]) by rw [hfl]; exact unhide HL6).take0 (n := 0) (by omega))
        have hmk : ∀ W : World, (Instr.makeSlice 23 (.int .i64 0) (.int .i64 0)).run Try.prog W = .ok (.slice (some ⟨W.heap.size, 0, none⟩) 0 0) (W.alloc (.cells #[] 5)) := fun W => by
          have h := run_make_row' (P := Try.prog) 23 5 (.int .u8 0) 1 Try.underlying23 Try.info5 rfl .i64 .i64 0 (by omega) (by omega) W
          simpa [madeZeros, zeros] using h
        have HSF := hide (scanF_run (t := []) (unhide HOi) (firstF_short (by simp)))
        go_region_held3 (fun _ => True) (trivial) (first
          | (go_at_call 11; refine (join_any _ _ [] [] _ (by exact (unhide HT0).old (((Kept.refl [] w6)).alloc _).drew (by simp)) (by exact rd_empty _ _) (by simp)).mono ?_; rintro e w7 ⟨v7, rfl, r7, k7, _⟩; have HR7 := hide r7; have k67 := (((Kept.refl [] w6).alloc _).drew.trans k7 (by simp)); have HK7 := hide ((unhide HK6).trans k67 (by simp)); have HP7 := hide ((unhide HR6).old k67 (by simp)); clear r7 k7 k67)
          | (go_at_call 11; refine (join_any _ _ (runB ps) [] _ (by exact unhide HP7) (by exact unhide HR7) (by simp; omega)).mono ?_; rintro e w8 ⟨v8, rfl, r8, k8, _⟩; have HR8 := hide r8; have HK8 := hide ((unhide HK7).trans k8 (by simp)); clear r8 k8)
          | (go_at_call 13; refine (scan_any _ _ _ (by exact unhide HR8) (by simp; omega)).mono ?_; rintro e w9 ⟨v9, rfl, r9, k9⟩; rw [unhide HSF] at r9 ⊢; have HR9 := hide r9; have HK9 := hide ((unhide HK8).trans k9 (by simp)); clear r9 k9))
        obtain ⟨ao9, cap9, ts9, hu9, hf9, hc9, hc9', hr9, hcl9⟩ := id (unhide HR9)
        subst hu9
        have hlen9 : ts9.length = ps.length := by rw [hf9]; simp
        have HF9 := hide hf9
        have HRD9 := hide hr9
        have HCL9 := hide hcl9
        clear hf9 hr9 hcl9
        have hlen9' : (ts9.length : Int) = ps.length := by omega
        rw [hlen9]
        go_wp2_with fail
        go_loopw [87] (fun t87 wrz => ∃ (i : Nat), i ≤ ps.length ∧ t87 = .int .i64 i ∧ Hid (Kept [] w9 wrz)) (fun t _ => ps.length - (intOf t).toNat)
        case atStart => exact ⟨0, Nat.zero_le _, rfl, hide (Kept.refl _ _)⟩
        case round =>
          obtain ⟨j, hj, rfl, HKJ⟩ := hrel
          have HKw := hide ((unhide HK9).trans (unhide HKJ) (by simp))
          by_cases hltj : j < ps.length
          · have hltj' : (j : Int) < ps.length := by omega
            have hlt9 : j < ts9.length := by omega
            obtain ⟨b, off, rfl, hcc⟩ := unhide H6 (by omega)
            obtain ⟨b9, off9, rfl, hcc9⟩ := unhide HCL9 (by omega)
            have p1 := (unhide HKw).cell (hcc j hltj).1 (by simp)
            have p2 := (unhide HKw).cell (hcc j hltj).2 (by simp)
            have p3 := (unhide HKJ).cell (hcc9 j hlt9).1 (by simp)
            have p4 := (unhide HKJ).cell (hcc9 j hlt9).2 (by simp)
            have HA := hide ((unhide H5 j hltj).1.old (unhide HKw) (by simp))
            have HB := hide ((unhide HRD9 ts9[j] (List.getElem_mem hlt9)).old (unhide HKJ) (by simp))
            have hget : ps.getD j (0, []) = (ts9[j].1, ts9[j].2.2) := by rw [List.getD_eq_getElem?_getD, unhide HF9, List.getElem?_map, List.getElem?_eq_getElem hlt9]; rfl
            rw [hget] at p1 HA
            clear hcc hcc9 hget
            generalize vs.getD j undef = vj at p2 HA
            generalize ts9[j] = tj at p1 p3 p4 HA HB
            obtain ⟨pl, pv, pay⟩ := tj
            simp only at p1 p3 p4 HA HB
            obtain ⟨a8, m8, c8, rfl, hm8, _⟩ := id (unhide HA)
            obtain ⟨a7, m7, c7, rfl, hm7, _⟩ := id (unhide HB)
            subst hm8
            subst hm7
            go_wp2_with fail
            have HKW := hide ((Kept.refl [] wr).alloc (.cells #[.int .u64 (pl : Int), .slice a8 pay.length c8] 25))
            have HCW := hide (heap_alloc_new wr (.cells #[.int .u64 (pl : Int), .slice a8 pay.length c8] 25))
            obtain ⟨W, hW⟩ : ∃ W, wr.alloc (.cells #[.int .u64 (pl : Int), .slice a8 pay.length c8] 25) = W := ⟨_, rfl⟩
            rw [hW] at HKW HCW ⊢
            clear hW
            have d0 : W.cell? ⟨wr.heap.size, 0, none⟩ = some (.int .u64 pl) := by rw [cell_of_row _ _ _ _ _ _ (unhide HCW)]; rfl
            have d1 : W.cell? ⟨wr.heap.size, 1, none⟩ = some (.slice a8 pay.length c8) := by rw [cell_of_row _ _ _ _ _ _ (unhide HCW)]; rfl
            have d2 := (unhide HKW).cell p3 (by simp)
            have d3 := (unhide HKW).cell p4 (by simp)
            have HAW := hide ((unhide HA).old (unhide HKW) (by simp))
            have HBW := hide ((unhide HB).old (unhide HKW) (by simp))
            have HD0 := hide (show W.drew.cell? ⟨wr.heap.size, 0, none⟩ = _ from d0)
            have HD1 := hide (show W.drew.cell? ⟨wr.heap.size, 1, none⟩ = _ from d1)
            have HD2 := hide (show W.drew.cell? _ = _ from d2)
            have HD3 := hide (show W.drew.cell? _ = _ from d3)
            have HKd := hide ((unhide HKJ).trans (unhide HKW).drew (by simp))
            clear p1 p2 p3 p4
            go_region_held3 (fun w' => (w'.cell? ⟨wr.heap.size, 0, none⟩ = some (.int .u64 pl) ∧ w'.cell? ⟨wr.heap.size, 1, none⟩ = some (.slice a8 pay.length c8)) ∧ w'.cell? ⟨b9, off9 + j * 2, none⟩ = some (.int .u64 pl) ∧ w'.cell? ⟨b9, off9 + j * 2 + 1, none⟩ = some (.slice a7 pay.length c7)) (go_keep) (first
              | (go_at_call 16; refine (fsame_any pl pl _ _ pay pay _ (by exact unhide HBW) (by exact unhide HAW)).mono ?_; rintro e wf ⟨rfl, kf⟩; have HKf := hide ((unhide HKd).trans kf (by simp)); have j1 := kf.cell (unhide HD0) (by simp); have j2 := kf.cell (unhide HD1) (by simp); have j3 := kf.cell (unhide HD2) (by simp); have j4 := kf.cell (unhide HD3) (by simp); clear kf; rw [show (decide (pl = pl) && decide (pay = pay)) = true by simp]))
            go_wp2
            refine ⟨⟨j + 1, by omega, by go_num, HKf⟩, ?_⟩
            simp [intOf]; omega
          · have hltj' : ¬ (j : Int) < ps.length := by omega
            go_wp2
            go_ret
            exact ⟨rfl, (unhide HKw).below (Nat.le_refl _) (by simp)⟩
      by_cases q2 : 21 ≤ z
      · go_wp2_with fail
        have HT0 := hide (show Rd w6 (.slice a6 0 c6) [] from (show Rd w6 (.slice a6 (frB 1 [5, 6, 7]).length c6) (frB 1 [5, 6, 7]) by rw [hfl]; exact unhide HL6).take0 (n := 0) (by omega))
        have hmk : ∀ W : World, (Instr.makeSlice 23 (.int .i64 0) (.int .i64 0)).run Try.prog W = .ok (.slice (some ⟨W.heap.size, 0, none⟩) 0 0) (W.alloc (.cells #[] 5)) := fun W => by
          have h := run_make_row' (P := Try.prog) 23 5 (.int .u8 0) 1 Try.underlying23 Try.info5 rfl .i64 .i64 0 (by omega) (by omega) W
          simpa [madeZeros, zeros] using h
        have HSF := hide (scanF_run (t := []) (unhide HOi) (firstF_short (by simp)))
        go_region_held3 (fun _ => True) (trivial) (first
          | (go_at_call 11; refine (join_any _ _ [] [] _ (by exact (unhide HT0).old (((Kept.refl [] w6)).alloc _).drew (by simp)) (by exact rd_empty _ _) (by simp)).mono ?_; rintro e w7 ⟨v7, rfl, r7, k7, _⟩; have HR7 := hide r7; have k67 := (((Kept.refl [] w6).alloc _).drew.trans k7 (by simp)); have HK7 := hide ((unhide HK6).trans k67 (by simp)); have HP7 := hide ((unhide HR6).old k67 (by simp)); clear r7 k7 k67)
          | (go_at_call 11; refine (join_any _ _ (runB ps) [] _ (by exact unhide HP7) (by exact unhide HR7) (by simp; omega)).mono ?_; rintro e w8 ⟨v8, rfl, r8, k8, _⟩; have HR8 := hide r8; have HK8 := hide ((unhide HK7).trans k8 (by simp)); clear r8 k8)
          | (go_at_call 13; refine (scan_any _ _ _ (by exact unhide HR8) (by simp; omega)).mono ?_; rintro e w9 ⟨v9, rfl, r9, k9⟩; rw [unhide HSF] at r9 ⊢; have HR9 := hide r9; have HK9 := hide ((unhide HK8).trans k9 (by simp)); clear r9 k9))
        obtain ⟨ao9, cap9, ts9, hu9, hf9, hc9, hc9', hr9, hcl9⟩ := id (unhide HR9)
        subst hu9
        have hlen9 : ts9.length = ps.length := by rw [hf9]; simp
        have HF9 := hide hf9
        have HRD9 := hide hr9
        have HCL9 := hide hcl9
        clear hf9 hr9 hcl9
        have hlen9' : (ts9.length : Int) = ps.length := by omega
        rw [hlen9]
        go_wp2_with fail
        go_loopw [87] (fun t87 wrz => ∃ (i : Nat), i ≤ ps.length ∧ t87 = .int .i64 i ∧ Hid (Kept [] w9 wrz)) (fun t _ => ps.length - (intOf t).toNat)
        case atStart => exact ⟨0, Nat.zero_le _, rfl, hide (Kept.refl _ _)⟩
        case round =>
          obtain ⟨j, hj, rfl, HKJ⟩ := hrel
          have HKw := hide ((unhide HK9).trans (unhide HKJ) (by simp))
          by_cases hltj : j < ps.length
          · have hltj' : (j : Int) < ps.length := by omega
            have hlt9 : j < ts9.length := by omega
            obtain ⟨b, off, rfl, hcc⟩ := unhide H6 (by omega)
            obtain ⟨b9, off9, rfl, hcc9⟩ := unhide HCL9 (by omega)
            have p1 := (unhide HKw).cell (hcc j hltj).1 (by simp)
            have p2 := (unhide HKw).cell (hcc j hltj).2 (by simp)
            have p3 := (unhide HKJ).cell (hcc9 j hlt9).1 (by simp)
            have p4 := (unhide HKJ).cell (hcc9 j hlt9).2 (by simp)
            have HA := hide ((unhide H5 j hltj).1.old (unhide HKw) (by simp))
            have HB := hide ((unhide HRD9 ts9[j] (List.getElem_mem hlt9)).old (unhide HKJ) (by simp))
            have hget : ps.getD j (0, []) = (ts9[j].1, ts9[j].2.2) := by rw [List.getD_eq_getElem?_getD, unhide HF9, List.getElem?_map, List.getElem?_eq_getElem hlt9]; rfl
            rw [hget] at p1 HA
            clear hcc hcc9 hget
            generalize vs.getD j undef = vj at p2 HA
            generalize ts9[j] = tj at p1 p3 p4 HA HB
            obtain ⟨pl, pv, pay⟩ := tj
            simp only at p1 p3 p4 HA HB
            obtain ⟨a8, m8, c8, rfl, hm8, _⟩ := id (unhide HA)
            obtain ⟨a7, m7, c7, rfl, hm7, _⟩ := id (unhide HB)
            subst hm8
            subst hm7
            go_wp2_with fail
            have HKW := hide ((Kept.refl [] wr).alloc (.cells #[.int .u64 (pl : Int), .slice a8 pay.length c8] 25))
            have HCW := hide (heap_alloc_new wr (.cells #[.int .u64 (pl : Int), .slice a8 pay.length c8] 25))
            obtain ⟨W, hW⟩ : ∃ W, wr.alloc (.cells #[.int .u64 (pl : Int), .slice a8 pay.length c8] 25) = W := ⟨_, rfl⟩
            rw [hW] at HKW HCW ⊢
            clear hW
            have d0 : W.cell? ⟨wr.heap.size, 0, none⟩ = some (.int .u64 pl) := by rw [cell_of_row _ _ _ _ _ _ (unhide HCW)]; rfl
            have d1 : W.cell? ⟨wr.heap.size, 1, none⟩ = some (.slice a8 pay.length c8) := by rw [cell_of_row _ _ _ _ _ _ (unhide HCW)]; rfl
            have d2 := (unhide HKW).cell p3 (by simp)
            have d3 := (unhide HKW).cell p4 (by simp)
            have HAW := hide ((unhide HA).old (unhide HKW) (by simp))
            have HBW := hide ((unhide HB).old (unhide HKW) (by simp))
            have HD0 := hide (show W.drew.cell? ⟨wr.heap.size, 0, none⟩ = _ from d0)
            have HD1 := hide (show W.drew.cell? ⟨wr.heap.size, 1, none⟩ = _ from d1)
            have HD2 := hide (show W.drew.cell? _ = _ from d2)
            have HD3 := hide (show W.drew.cell? _ = _ from d3)
            have HKd := hide ((unhide HKJ).trans (unhide HKW).drew (by simp))
            clear p1 p2 p3 p4
            go_region_held3 (fun w' => (w'.cell? ⟨wr.heap.size, 0, none⟩ = some (.int .u64 pl) ∧ w'.cell? ⟨wr.heap.size, 1, none⟩ = some (.slice a8 pay.length c8)) ∧ w'.cell? ⟨b9, off9 + j * 2, none⟩ = some (.int .u64 pl) ∧ w'.cell? ⟨b9, off9 + j * 2 + 1, none⟩ = some (.slice a7 pay.length c7)) (go_keep) (first
              | (go_at_call 16; refine (fsame_any pl pl _ _ pay pay _ (by exact unhide HBW) (by exact unhide HAW)).mono ?_; rintro e wf ⟨rfl, kf⟩; have HKf := hide ((unhide HKd).trans kf (by simp)); have j1 := kf.cell (unhide HD0) (by simp); have j2 := kf.cell (unhide HD1) (by simp); have j3 := kf.cell (unhide HD2) (by simp); have j4 := kf.cell (unhide HD3) (by simp); clear kf; rw [show (decide (pl = pl) && decide (pay = pay)) = true by simp]))
            go_wp2
            refine ⟨⟨j + 1, by omega, by go_num, HKf⟩, ?_⟩
            simp [intOf]; omega
          · have hltj' : ¬ (j : Int) < ps.length := by omega
            go_wp2
            go_ret
            exact ⟨rfl, (unhide HKw).below (Nat.le_refl _) (by simp)⟩
      by_cases q3 : y < 0
      · go_wp2_with fail
        have HT0 := hide (show Rd w6 (.slice a6 0 c6) [] from (show Rd w6 (.slice a6 (frB 1 [5, 6, 7]).length c6) (frB 1 [5, 6, 7]) by rw [hfl]; exact unhide HL6).take0 (n := 0) (by omega))
        have hmk : ∀ W : World, (Instr.makeSlice 23 (.int .i64 0) (.int .i64 0)).run Try.prog W = .ok (.slice (some ⟨W.heap.size, 0, none⟩) 0 0) (W.alloc (.cells #[] 5)) := fun W => by
          have h := run_make_row' (P := Try.prog) 23 5 (.int .u8 0) 1 Try.underlying23 Try.info5 rfl .i64 .i64 0 (by omega) (by omega) W
          simpa [madeZeros, zeros] using h
        have HSF := hide (scanF_run (t := []) (unhide HOi) (firstF_short (by simp)))
        go_region_held3 (fun _ => True) (trivial) (first
          | (go_at_call 11; refine (join_any _ _ [] [] _ (by exact (unhide HT0).old (((Kept.refl [] w6)).alloc _).drew (by simp)) (by exact rd_empty _ _) (by simp)).mono ?_; rintro e w7 ⟨v7, rfl, r7, k7, _⟩; have HR7 := hide r7; have k67 := (((Kept.refl [] w6).alloc _).drew.trans k7 (by simp)); have HK7 := hide ((unhide HK6).trans k67 (by simp)); have HP7 := hide ((unhide HR6).old k67 (by simp)); clear r7 k7 k67)
          | (go_at_call 11; refine (join_any _ _ (runB ps) [] _ (by exact unhide HP7) (by exact unhide HR7) (by simp; omega)).mono ?_; rintro e w8 ⟨v8, rfl, r8, k8, _⟩; have HR8 := hide r8; have HK8 := hide ((unhide HK7).trans k8 (by simp)); clear r8 k8)
          | (go_at_call 13; refine (scan_any _ _ _ (by exact unhide HR8) (by simp; omega)).mono ?_; rintro e w9 ⟨v9, rfl, r9, k9⟩; rw [unhide HSF] at r9 ⊢; have HR9 := hide r9; have HK9 := hide ((unhide HK8).trans k9 (by simp)); clear r9 k9))
        obtain ⟨ao9, cap9, ts9, hu9, hf9, hc9, hc9', hr9, hcl9⟩ := id (unhide HR9)
        subst hu9
        have hlen9 : ts9.length = ps.length := by rw [hf9]; simp
        have HF9 := hide hf9
        have HRD9 := hide hr9
        have HCL9 := hide hcl9
        clear hf9 hr9 hcl9
        have hlen9' : (ts9.length : Int) = ps.length := by omega
        rw [hlen9]
        go_wp2_with fail
        go_loopw [87] (fun t87 wrz => ∃ (i : Nat), i ≤ ps.length ∧ t87 = .int .i64 i ∧ Hid (Kept [] w9 wrz)) (fun t _ => ps.length - (intOf t).toNat)
        case atStart => exact ⟨0, Nat.zero_le _, rfl, hide (Kept.refl _ _)⟩
        case round =>
          obtain ⟨j, hj, rfl, HKJ⟩ := hrel
          have HKw := hide ((unhide HK9).trans (unhide HKJ) (by simp))
          by_cases hltj : j < ps.length
          · have hltj' : (j : Int) < ps.length := by omega
            have hlt9 : j < ts9.length := by omega
            obtain ⟨b, off, rfl, hcc⟩ := unhide H6 (by omega)
            obtain ⟨b9, off9, rfl, hcc9⟩ := unhide HCL9 (by omega)
            have p1 := (unhide HKw).cell (hcc j hltj).1 (by simp)
            have p2 := (unhide HKw).cell (hcc j hltj).2 (by simp)
            have p3 := (unhide HKJ).cell (hcc9 j hlt9).1 (by simp)
            have p4 := (unhide HKJ).cell (hcc9 j hlt9).2 (by simp)
            have HA := hide ((unhide H5 j hltj).1.old (unhide HKw) (by simp))
            have HB := hide ((unhide HRD9 ts9[j] (List.getElem_mem hlt9)).old (unhide HKJ) (by simp))
            have hget : ps.getD j (0, []) = (ts9[j].1, ts9[j].2.2) := by rw [List.getD_eq_getElem?_getD, unhide HF9, List.getElem?_map, List.getElem?_eq_getElem hlt9]; rfl
            rw [hget] at p1 HA
            clear hcc hcc9 hget
            generalize vs.getD j undef = vj at p2 HA
            generalize ts9[j] = tj at p1 p3 p4 HA HB
            obtain ⟨pl, pv, pay⟩ := tj
            simp only at p1 p3 p4 HA HB
            obtain ⟨a8, m8, c8, rfl, hm8, _⟩ := id (unhide HA)
            obtain ⟨a7, m7, c7, rfl, hm7, _⟩ := id (unhide HB)
            subst hm8
            subst hm7
            go_wp2_with fail
            have HKW := hide ((Kept.refl [] wr).alloc (.cells #[.int .u64 (pl : Int), .slice a8 pay.length c8] 25))
            have HCW := hide (heap_alloc_new wr (.cells #[.int .u64 (pl : Int), .slice a8 pay.length c8] 25))
            obtain ⟨W, hW⟩ : ∃ W, wr.alloc (.cells #[.int .u64 (pl : Int), .slice a8 pay.length c8] 25) = W := ⟨_, rfl⟩
            rw [hW] at HKW HCW ⊢
            clear hW
            have d0 : W.cell? ⟨wr.heap.size, 0, none⟩ = some (.int .u64 pl) := by rw [cell_of_row _ _ _ _ _ _ (unhide HCW)]; rfl
            have d1 : W.cell? ⟨wr.heap.size, 1, none⟩ = some (.slice a8 pay.length c8) := by rw [cell_of_row _ _ _ _ _ _ (unhide HCW)]; rfl
            have d2 := (unhide HKW).cell p3 (by simp)
            have d3 := (unhide HKW).cell p4 (by simp)
            have HAW := hide ((unhide HA).old (unhide HKW) (by simp))
            have HBW := hide ((unhide HB).old (unhide HKW) (by simp))
            have HD0 := hide (show W.drew.cell? ⟨wr.heap.size, 0, none⟩ = _ from d0)
            have HD1 := hide (show W.drew.cell? ⟨wr.heap.size, 1, none⟩ = _ from d1)
            have HD2 := hide (show W.drew.cell? _ = _ from d2)
            have HD3 := hide (show W.drew.cell? _ = _ from d3)
            have HKd := hide ((unhide HKJ).trans (unhide HKW).drew (by simp))
            clear p1 p2 p3 p4
            go_region_held3 (fun w' => (w'.cell? ⟨wr.heap.size, 0, none⟩ = some (.int .u64 pl) ∧ w'.cell? ⟨wr.heap.size, 1, none⟩ = some (.slice a8 pay.length c8)) ∧ w'.cell? ⟨b9, off9 + j * 2, none⟩ = some (.int .u64 pl) ∧ w'.cell? ⟨b9, off9 + j * 2 + 1, none⟩ = some (.slice a7 pay.length c7)) (go_keep) (first
              | (go_at_call 16; refine (fsame_any pl pl _ _ pay pay _ (by exact unhide HBW) (by exact unhide HAW)).mono ?_; rintro e wf ⟨rfl, kf⟩; have HKf := hide ((unhide HKd).trans kf (by simp)); have j1 := kf.cell (unhide HD0) (by simp); have j2 := kf.cell (unhide HD1) (by simp); have j3 := kf.cell (unhide HD2) (by simp); have j4 := kf.cell (unhide HD3) (by simp); clear kf; rw [show (decide (pl = pl) && decide (pay = pay)) = true by simp]))
            go_wp2
            refine ⟨⟨j + 1, by omega, by go_num, HKf⟩, ?_⟩
            simp [intOf]; omega
          · have hltj' : ¬ (j : Int) < ps.length := by omega
            go_wp2
            go_ret
            exact ⟨rfl, (unhide HKw).below (Nat.le_refl _) (by simp)⟩
      by_cases q4 : 5000 < y
      · go_wp2_with fail
        have HT0 := hide (show Rd w6 (.slice a6 0 c6) [] from (show Rd w6 (.slice a6 (frB 1 [5, 6, 7]).length c6) (frB 1 [5, 6, 7]) by rw [hfl]; exact unhide HL6).take0 (n := 0) (by omega))
        have hmk : ∀ W : World, (Instr.makeSlice 23 (.int .i64 0) (.int .i64 0)).run Try.prog W = .ok (.slice (some ⟨W.heap.size, 0, none⟩) 0 0) (W.alloc (.cells #[] 5)) := fun W => by
          have h := run_make_row' (P := Try.prog) 23 5 (.int .u8 0) 1 Try.underlying23 Try.info5 rfl .i64 .i64 0 (by omega) (by omega) W
          simpa [madeZeros, zeros] using h
        have HSF := hide (scanF_run (t := []) (unhide HOi) (firstF_short (by simp)))
        go_region_held3 (fun _ => True) (trivial) (first
          | (go_at_call 11; refine (join_any _ _ [] [] _ (by exact (unhide HT0).old (((Kept.refl [] w6)).alloc _).drew (by simp)) (by exact rd_empty _ _) (by simp)).mono ?_; rintro e w7 ⟨v7, rfl, r7, k7, _⟩; have HR7 := hide r7; have k67 := (((Kept.refl [] w6).alloc _).drew.trans k7 (by simp)); have HK7 := hide ((unhide HK6).trans k67 (by simp)); have HP7 := hide ((unhide HR6).old k67 (by simp)); clear r7 k7 k67)
          | (go_at_call 11; refine (join_any _ _ (runB ps) [] _ (by exact unhide HP7) (by exact unhide HR7) (by simp; omega)).mono ?_; rintro e w8 ⟨v8, rfl, r8, k8, _⟩; have HR8 := hide r8; have HK8 := hide ((unhide HK7).trans k8 (by simp)); clear r8 k8)
          | (go_at_call 13; refine (scan_any _ _ _ (by exact unhide HR8) (by simp; omega)).mono ?_; rintro e w9 ⟨v9, rfl, r9, k9⟩; rw [unhide HSF] at r9 ⊢; have HR9 := hide r9; have HK9 := hide ((unhide HK8).trans k9 (by simp)); clear r9 k9))
        obtain ⟨ao9, cap9, ts9, hu9, hf9, hc9, hc9', hr9, hcl9⟩ := id (unhide HR9)
        subst hu9
        have hlen9 : ts9.length = ps.length := by rw [hf9]; simp
        have HF9 := hide hf9
        have HRD9 := hide hr9
        have HCL9 := hide hcl9
        clear hf9 hr9 hcl9
        have hlen9' : (ts9.length : Int) = ps.length := by omega
        rw [hlen9]
        go_wp2_with fail
        go_loopw [87] (fun t87 wrz => ∃ (i : Nat), i ≤ ps.length ∧ t87 = .int .i64 i ∧ Hid (Kept [] w9 wrz)) (fun t _ => ps.length - (intOf t).toNat)
        case atStart => exact ⟨0, Nat.zero_le _, rfl, hide (Kept.refl _ _)⟩
        case round =>
          obtain ⟨j, hj, rfl, HKJ⟩ := hrel
          have HKw := hide ((unhide HK9).trans (unhide HKJ) (by simp))
          by_cases hltj : j < ps.length
          · have hltj' : (j : Int) < ps.length := by omega
            have hlt9 : j < ts9.length := by omega
            obtain ⟨b, off, rfl, hcc⟩ := unhide H6 (by omega)
            obtain ⟨b9, off9, rfl, hcc9⟩ := unhide HCL9 (by omega)
            have p1 := (unhide HKw).cell (hcc j hltj).1 (by simp)
            have p2 := (unhide HKw).cell (hcc j hltj).2 (by simp)
            have p3 := (unhide HKJ).cell (hcc9 j hlt9).1 (by simp)
            have p4 := (unhide HKJ).cell (hcc9 j hlt9).2 (by simp)
            have HA := hide ((unhide H5 j hltj).1.old (unhide HKw) (by simp))
            have HB := hide ((unhide HRD9 ts9[j] (List.getElem_mem hlt9)).old (unhide HKJ) (by simp))
            have hget : ps.getD j (0, []) = (ts9[j].1, ts9[j].2.2) := by rw [List.getD_eq_getElem?_getD, unhide HF9, List.getElem?_map, List.getElem?_eq_getElem hlt9]; rfl
            rw [hget] at p1 HA
            clear hcc hcc9 hget
            generalize vs.getD j undef = vj at p2 HA
            generalize ts9[j] = tj at p1 p3 p4 HA HB
            obtain ⟨pl, pv, pay⟩ := tj
            simp only at p1 p3 p4 HA HB
            obtain ⟨a8, m8, c8, rfl, hm8, _⟩ := id (unhide HA)
            obtain ⟨a7, m7, c7, rfl, hm7, _⟩ := id (unhide HB)
            subst hm8
            subst hm7
            go_wp2_with fail
            have HKW := hide ((Kept.refl [] wr).alloc (.cells #[.int .u64 (pl : Int), .slice a8 pay.length c8] 25))
            have HCW := hide (heap_alloc_new wr (.cells #[.int .u64 (pl : Int), .slice a8 pay.length c8] 25))
            obtain ⟨W, hW⟩ : ∃ W, wr.alloc (.cells #[.int .u64 (pl : Int), .slice a8 pay.length c8] 25) = W := ⟨_, rfl⟩
            rw [hW] at HKW HCW ⊢
            clear hW
            have d0 : W.cell? ⟨wr.heap.size, 0, none⟩ = some (.int .u64 pl) := by rw [cell_of_row _ _ _ _ _ _ (unhide HCW)]; rfl
            have d1 : W.cell? ⟨wr.heap.size, 1, none⟩ = some (.slice a8 pay.length c8) := by rw [cell_of_row _ _ _ _ _ _ (unhide HCW)]; rfl
            have d2 := (unhide HKW).cell p3 (by simp)
            have d3 := (unhide HKW).cell p4 (by simp)
            have HAW := hide ((unhide HA).old (unhide HKW) (by simp))
            have HBW := hide ((unhide HB).old (unhide HKW) (by simp))
            have HD0 := hide (show W.drew.cell? ⟨wr.heap.size, 0, none⟩ = _ from d0)
            have HD1 := hide (show W.drew.cell? ⟨wr.heap.size, 1, none⟩ = _ from d1)
            have HD2 := hide (show W.drew.cell? _ = _ from d2)
            have HD3 := hide (show W.drew.cell? _ = _ from d3)
            have HKd := hide ((unhide HKJ).trans (unhide HKW).drew (by simp))
            clear p1 p2 p3 p4
            go_region_held3 (fun w' => (w'.cell? ⟨wr.heap.size, 0, none⟩ = some (.int .u64 pl) ∧ w'.cell? ⟨wr.heap.size, 1, none⟩ = some (.slice a8 pay.length c8)) ∧ w'.cell? ⟨b9, off9 + j * 2, none⟩ = some (.int .u64 pl) ∧ w'.cell? ⟨b9, off9 + j * 2 + 1, none⟩ = some (.slice a7 pay.length c7)) (go_keep) (first
              | (go_at_call 16; refine (fsame_any pl pl _ _ pay pay _ (by exact unhide HBW) (by exact unhide HAW)).mono ?_; rintro e wf ⟨rfl, kf⟩; have HKf := hide ((unhide HKd).trans kf (by simp)); have j1 := kf.cell (unhide HD0) (by simp); have j2 := kf.cell (unhide HD1) (by simp); have j3 := kf.cell (unhide HD2) (by simp); have j4 := kf.cell (unhide HD3) (by simp); clear kf; rw [show (decide (pl = pl) && decide (pay = pay)) = true by simp]))
            go_wp2
            refine ⟨⟨j + 1, by omega, by go_num, HKf⟩, ?_⟩
            simp [intOf]; omega
          · have hltj' : ¬ (j : Int) < ps.length := by omega
            go_wp2
            go_ret
            exact ⟨rfl, (unhide HKw).below (Nat.le_refl _) (by simp)⟩
      obtain ⟨c, rfl⟩ : ∃ c : Nat, z = c := ⟨z.toNat, by omega⟩
      obtain ⟨k, rfl⟩ : ∃ k : Nat, y = k := ⟨y.toNat, by omega⟩
      have hmk := run_make_row' (P := Try.prog) 23 5 (.int .u8 0) 1 Try.underlying23 Try.info5 rfl .i64 .i64 k (by omega) (by omega)
      simp only [madeZeros] at hmk
      have q2' : (c : Int) < 21 := by omega
      have HT3 := hide ((show Rd w6 (.slice a6 (frB 1 [5, 6, 7]).length c6) (frB 1 [5, 6, 7]) by rw [hfl]; exact unhide HL6).take0 (n := c) (by omega))
      have hzk : (zeros k).toArray = ((List.replicate k 0).map Go.Proofs.Ytnepbjnemgebiab.u8).toArray := by simp [zeros, Go.Proofs.Ytnepbjnemgebiab.u8]
      have HRZ := hide (by
        have h9 := rd_fresh (w := w6.alloc (.cells ((List.replicate k 0).map Go.Proofs.Ytnepbjnemgebiab.u8).toArray 5)) (g := w6.heap.size) (bs := List.replicate k 0) (heap_alloc_new _ _) (by simp) (by simp; omega)
        rw [List.length_replicate, ← hzk] at h9
        exact h9 : Rd (w6.alloc (.cells (zeros k).toArray 5)) (.slice (some ⟨w6.heap.size, 0, none⟩) k k) (List.replicate k 0))
      clear hzk
      have hq9 : c ≤ c6 := by omega
      have HFN := hide (firstF_torn 1 [5, 6, 7] c k (by decide) (by decide) (by decide) (by rw [show ([5, 6, 7] : List Nat).length = 3 from rfl]; omega))
      have HQL := hide (by rw [List.length_append, List.length_take, List.length_replicate]; omega : ((frB 1 [5, 6, 7]).take c ++ List.replicate k 0).length = c + k)
      obtain ⟨q, hq⟩ : ∃ q, (frB 1 [5, 6, 7]).take c ++ List.replicate k 0 = q := ⟨_, rfl⟩
      rw [hq] at HFN HQL
      have HSF := hide (scanF_run (unhide HOi) (unhide HFN))
      have HQE := hide hq
      clear hq
      go_wp2_with fail
      go_region_held3 (fun _ => True) (trivial) (first
        | (go_at_call 11; refine (join_any _ _ ((frB 1 [5, 6, 7]).take c) (List.replicate k 0) _ (by exact (unhide HT3).old (((Kept.refl [] w6)).alloc _).drew (by simp)) (by exact unhide HRZ) (by rw [List.length_take, List.length_replicate]; omega)).mono ?_; rintro e w7 ⟨v7, rfl, r7, k7, _⟩; rw [unhide HQE] at r7; have HR7 := hide r7; have k67 := (((Kept.refl [] w6).alloc _).drew.trans k7 (by simp)); have HK7 := hide ((unhide HK6).trans k67 (by simp)); have HP7 := hide ((unhide HR6).old k67 (by simp)); clear r7 k7 k67)
        | (go_at_call 11; refine (join_any _ _ (runB ps) q _ (by exact unhide HP7) (by exact unhide HR7) (by have := unhide HQL; simp; omega)).mono ?_; rintro e w8 ⟨v8, rfl, r8, k8, _⟩; have HR8 := hide r8; have HK8 := hide ((unhide HK7).trans k8 (by simp)); clear r8 k8)
        | (go_at_call 13; refine (scan_any _ _ _ (by exact unhide HR8) (by have := unhide HQL; simp; omega)).mono ?_; rintro e w9 ⟨v9, rfl, r9, k9⟩; rw [unhide HSF] at r9 ⊢; have HR9 := hide r9; have HK9 := hide ((unhide HK8).trans k9 (by simp)); clear r9 k9))
      obtain ⟨ao9, cap9, ts9, hu9, hf9, hc9, hc9', hr9, hcl9⟩ := id (unhide HR9)
      subst hu9
      have hlen9 : ts9.length = ps.length := by rw [hf9]; simp
      have HF9 := hide hf9
      have HRD9 := hide hr9
      have HCL9 := hide hcl9
      clear hf9 hr9 hcl9
      have hlen9' : (ts9.length : Int) = ps.length := by omega
      rw [hlen9]
      go_wp2_with fail
      go_loopw [87] (fun t87 wrz => ∃ (i : Nat), i ≤ ps.length ∧ t87 = .int .i64 i ∧ Hid (Kept [] w9 wrz)) (fun t _ => ps.length - (intOf t).toNat)
      case atStart => exact ⟨0, Nat.zero_le _, rfl, hide (Kept.refl _ _)⟩
      case round =>
        obtain ⟨j, hj, rfl, HKJ⟩ := hrel
        have HKw := hide ((unhide HK9).trans (unhide HKJ) (by simp))
        by_cases hltj : j < ps.length
        · have hltj' : (j : Int) < ps.length := by omega
          have hlt9 : j < ts9.length := by omega
          obtain ⟨b, off, rfl, hcc⟩ := unhide H6 (by omega)
          obtain ⟨b9, off9, rfl, hcc9⟩ := unhide HCL9 (by omega)
          have p1 := (unhide HKw).cell (hcc j hltj).1 (by simp)
          have p2 := (unhide HKw).cell (hcc j hltj).2 (by simp)
          have p3 := (unhide HKJ).cell (hcc9 j hlt9).1 (by simp)
          have p4 := (unhide HKJ).cell (hcc9 j hlt9).2 (by simp)
          have HA := hide ((unhide H5 j hltj).1.old (unhide HKw) (by simp))
          have HB := hide ((unhide HRD9 ts9[j] (List.getElem_mem hlt9)).old (unhide HKJ) (by simp))
          have hget : ps.getD j (0, []) = (ts9[j].1, ts9[j].2.2) := by rw [List.getD_eq_getElem?_getD, unhide HF9, List.getElem?_map, List.getElem?_eq_getElem hlt9]; rfl
          rw [hget] at p1 HA
          clear hcc hcc9 hget
          generalize vs.getD j undef = vj at p2 HA
          generalize ts9[j] = tj at p1 p3 p4 HA HB
          obtain ⟨pl, pv, pay⟩ := tj
          simp only at p1 p3 p4 HA HB
          obtain ⟨a8, m8, c8, rfl, hm8, _⟩ := id (unhide HA)
          obtain ⟨a7, m7, c7, rfl, hm7, _⟩ := id (unhide HB)
          subst hm8
          subst hm7
          go_wp2_with fail
          have HKW := hide ((Kept.refl [] wr).alloc (.cells #[.int .u64 (pl : Int), .slice a8 pay.length c8] 25))
          have HCW := hide (heap_alloc_new wr (.cells #[.int .u64 (pl : Int), .slice a8 pay.length c8] 25))
          obtain ⟨W, hW⟩ : ∃ W, wr.alloc (.cells #[.int .u64 (pl : Int), .slice a8 pay.length c8] 25) = W := ⟨_, rfl⟩
          rw [hW] at HKW HCW ⊢
          clear hW
          have d0 : W.cell? ⟨wr.heap.size, 0, none⟩ = some (.int .u64 pl) := by rw [cell_of_row _ _ _ _ _ _ (unhide HCW)]; rfl
          have d1 : W.cell? ⟨wr.heap.size, 1, none⟩ = some (.slice a8 pay.length c8) := by rw [cell_of_row _ _ _ _ _ _ (unhide HCW)]; rfl
          have d2 := (unhide HKW).cell p3 (by simp)
          have d3 := (unhide HKW).cell p4 (by simp)
          have HAW := hide ((unhide HA).old (unhide HKW) (by simp))
          have HBW := hide ((unhide HB).old (unhide HKW) (by simp))
          have HD0 := hide (show W.drew.cell? ⟨wr.heap.size, 0, none⟩ = _ from d0)
          have HD1 := hide (show W.drew.cell? ⟨wr.heap.size, 1, none⟩ = _ from d1)
          have HD2 := hide (show W.drew.cell? _ = _ from d2)
          have HD3 := hide (show W.drew.cell? _ = _ from d3)
          have HKd := hide ((unhide HKJ).trans (unhide HKW).drew (by simp))
          clear p1 p2 p3 p4
          go_region_held3 (fun w' => (w'.cell? ⟨wr.heap.size, 0, none⟩ = some (.int .u64 pl) ∧ w'.cell? ⟨wr.heap.size, 1, none⟩ = some (.slice a8 pay.length c8)) ∧ w'.cell? ⟨b9, off9 + j * 2, none⟩ = some (.int .u64 pl) ∧ w'.cell? ⟨b9, off9 + j * 2 + 1, none⟩ = some (.slice a7 pay.length c7)) (go_keep) (first
            | (go_at_call 16; refine (fsame_any pl pl _ _ pay pay _ (by exact unhide HBW) (by exact unhide HAW)).mono ?_; rintro e wf ⟨rfl, kf⟩; have HKf := hide ((unhide HKd).trans kf (by simp)); have j1 := kf.cell (unhide HD0) (by simp); have j2 := kf.cell (unhide HD1) (by simp); have j3 := kf.cell (unhide HD2) (by simp); have j4 := kf.cell (unhide HD3) (by simp); clear kf; rw [show (decide (pl = pl) && decide (pay = pay)) = true by simp]))
          go_wp2
          refine ⟨⟨j + 1, by omega, by go_num, HKf⟩, ?_⟩
          simp [intOf]; omega
        · have hltj' : ¬ (j : Int) < ps.length := by omega
          go_wp2
          go_ret
          exact ⟨rfl, (unhide HKw).below (Nat.le_refl _) (by simp)⟩
end Go.Proofs.Ytnepbjnemgebiab
