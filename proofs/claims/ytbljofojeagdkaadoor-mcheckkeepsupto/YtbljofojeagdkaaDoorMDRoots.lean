import Derived.Test.YtbljofojeagdkaaDoorMTwo
namespace Go.Proofs.YtbljofojeagdkaaDoor
open Go.RowKit Go.BigFrame
set_option linter.unusedVariables false
set_option linter.unusedSimpArgs false

set_option maxRecDepth 100000 in
set_option maxHeartbeats 2000000 in
theorem docRootsOf_any (z : Int) (m n : Nat) (leaf : List Nat) (pv : Value) (p : List (List Nat)) (w : World) (hz : -9223372036854775808 ≤ z ∧ z ≤ 9223372036854775807) (hl : Dg leaf) (hi : m < 18446744073709551616) (hn : n < 18446744073709551616) (hp : RdD w pv p) (hpl : p.length ≤ 1048576) :
    Calls Tryd.prog 12 #[.int .i64 z, .int .u64 m, .int .u64 n, .agg (brow leaf), pv] w fun e w' => e = .returned (.tuple #[.agg (brow (rootsD z leaf m n p).1), .agg (brow (rootsD z leaf m n p).2), .int .i64 (rootsE z leaf m n p)]) ∧ Kept [] w w' := by
  have HP := hide hp
  have hdg := rootsD_dg (z := z) (m := m) (n := n) hl (fun d hd => hp.dg hd)
  obtain ⟨ao, len, cap, rfl, h1, h2, h3, h4, h5⟩ := hp
  clear h4 h5
  subst h1
  have HL := hide hl
  have hll := hl.1
  obtain ⟨D, hD⟩ : ∃ D, rootsD z leaf m n p = D := ⟨_, rfl⟩
  obtain ⟨E, hE⟩ : ∃ E, rootsE z leaf m n p = E := ⟨_, rfl⟩
  have HD := hide hD
  have HE := hide hE
  rw [hD] at hdg
  rw [hD, hE]
  clear hD hE
  obtain ⟨D1, D2⟩ := D
  have hd1 := hdg.1.1
  have hd2 := hdg.2.1
  simp only at hd1 hd2 ⊢
  clear hdg
  go_enter Tryd.func12, Tryd.ntmps12
  have HGL := hide ((((Kept.refl [] (w.alloc (.cells (brow leaf) 23))).alloc (.cells (zb 32) 23)).alloc (.cells (zb 32) 23)).heap (heap_alloc_new w (.cells (brow leaf) 23)) (by simp))
  have HGZ := hide (((Kept.refl [] ((w.alloc (.cells (brow leaf) 23)).alloc (.cells (zb 32) 23))).alloc (.cells (zb 32) 23)).heap (alloc_at w (.cells (brow leaf) 23) (.cells (zb 32) 23)) (by simp))
  have HGY := hide (alloc3_at w (.cells (brow leaf) 23) (.cells (zb 32) 23) (.cells (zb 32) 23))
  have HK0 := hide ((((Kept.refl [] w).alloc (.cells (brow leaf) 23)).alloc (.cells (zb 32) 23)).alloc (.cells (zb 32) 23))
  obtain ⟨W0, hW0⟩ : ∃ W0, ((w.alloc (.cells (brow leaf) 23)).alloc (.cells (zb 32) 23)).alloc (.cells (zb 32) 23) = W0 := ⟨_, rfl⟩
  have hsz : w.heap.size + 1 + 1 + 1 = W0.heap.size := by rw [← hW0]; simp
  have HLIT := hide (own_lit1 W0 leaf hll)
  rw [hW0] at HGL HGZ HGY HK0
  have k0 := (Kept.refl [] W0).alloc (.cells (brow leaf) 23)
  have HK00 := hide k0
  have HP0 := hide ((unhide HP).old ((unhide HK0).trans k0 (by simp)))
  clear k0
  go_wp2_with (first
    | (rw [zb32, hW0]; refine wpList_load_mid rfl 23 _ rfl w.heap.size 0 rfl (leaf.map u8) _ (range_row (unhide HGL)) Tryd.underlying23 rfl (by rw [List.length_map, hll]; exact Tryd.size_dig) ?_)
    | (at_builtin; rw [zb32, one_dig leaf hll]; refine wpList_appendD rfl (.tmp 19) (.tmp 20) rfl rfl _ W0.heap.size (.slice (some ⟨W0.heap.size, 0, none⟩) 1 1) [leaf] p ao p.length cap (by exact unhide HLIT) (by exact unhide HP0) (by simp; omega) (by simp) rfl rfl ?_; intro ao1 cap1 w1 HO1 HG1; have HKG := hide ((unhide HK00).grown (unhide HG1) (by intro k hk; right; simp [Value.ownBlock] at hk; omega)); clear HG1))
  have HR1 := hide (rdd_owns (unhide HO1) (fun d hd => by rcases List.mem_append.1 hd with h | h; simp at h; subst h; exact unhide HL; exact (unhide HP).dg h))
  have HK1' := hide ((unhide HK0).trans (unhide HKG) (by simp))
  have HL1' := hide ((unhide HKG).heap (unhide HGL) (by simp))
  have HZ1' := hide ((unhide HKG).heap (unhide HGZ) (by simp))
  have HY1' := hide ((unhide HKG).heap (unhide HGY) (by simp))
  clear HGL HGZ HGY HO1 HKG HLIT HK00 HP0 hW0
  refine Calls.mono (refCheck_any z _ ([leaf] ++ p) _ hz (unhide HR1)) ?_
  rintro e w2 ⟨rfl, k2⟩
  have HK1 := hide ((unhide HK1').trans k2 (by simp))
  have HL1 := hide (k2.heap (unhide HL1') (by simp))
  have HZ1 := hide (k2.heap (unhide HZ1') (by simp))
  have HY1 := hide (k2.heap (unhide HY1') (by simp))
  clear k2 HK1' HL1' HZ1' HY1' HR1
  obtain ⟨f, hf⟩ : ∃ f, formedE z ([leaf] ++ p) = f := ⟨_, rfl⟩
  have HF := hide (show formedE z (leaf :: p) = f from hf)
  rw [hf]
  clear hf
  by_cases hf0 : f = 0
  · subst hf0
    obtain ⟨hw, hff⟩ := formedE_zero (unhide HF)
    by_cases hr : m = 0 ∨ n ≤ m
    · have HC := hide (by rw [← unhide HE, ← unhide HD]; exact rootsE_r (unhide HF) hr : E = 4 ∧ (D1, D2) = (zD, zD))
      have HYD := hide ((setRow_other w2 (w.heap.size + 1) (w.heap.size + 1 + 1) (zb 32) (by omega)).trans (unhide HY1))
      have HKK := hide (((unhide HK1).setRow (g := w.heap.size + 1) (Or.inr (by omega)) (zb 32)).setRow (g := w.heap.size + 1 + 1) (Or.inr (by omega)) (zb 32))
      have HZR := hide ((setRow_other (w2.setRow (w.heap.size + 1) (zb 32)) (w.heap.size + 1 + 1) (w.heap.size + 1) (zb 32) (by omega)).trans (setRow_heap w2 _ _ (zb 32) _ _ (unhide HZ1)))
      have HYR := hide (setRow_heap (w2.setRow (w.heap.size + 1) (zb 32)) _ _ (zb 32) _ _ (unhide HYD))
      by_cases hm0 : m = 0
      · have hr1 : (m : Int) < 1 := by omega
        have hrd : decide ((m : Int) < 1) = true := by simp; omega
        go_wp2_with (first
          | (rw [zb32]; refine wpList_store_row rfl 23 (.tmp 10) _ rfl (w.heap.size + 1) (zb 32) rfl rfl _ (zb 32) (unhide HZ1) (by rw [zb_size]; exact Tryd.size_dig) rfl (brow_one _) ?_)
          | (refine wpList_store_row rfl 23 (.tmp 11) _ rfl (w.heap.size + 1 + 1) (zb 32) rfl rfl _ (zb 32) (unhide HYD) (by rw [zb_size]; exact Tryd.size_dig) rfl (brow_one _) ?_))
        rw [(unhide HC).1]
        have HC1 := hide (Prod.mk.inj (unhide HC).2).1
        have HC2 := hide (Prod.mk.inj (unhide HC).2).2
        rw [unhide HC1, unhide HC2]
        refine bodyPost_ret (v := .tuple #[.agg (zb 32), .agg (zb 32), .int .i64 4]) ?_ rfl ⟨rfl, unhide HKK⟩
        exact results_cell_cell_tmp rfl _ _ (w.heap.size + 1) (w.heap.size + 1 + 1) _ _ (zb 32) (zb 32) (0, 0) (0, 0) _ _ rfl (unhide HZR) rfl (unhide HYR) Tryd.underlying23 rfl (by rw [zb_size]; exact Tryd.size_dig) Tryd.underlying23 rfl (by rw [zb_size]; exact Tryd.size_dig) _ rfl
      · have hr1 : ¬ (m : Int) < 1 := by omega
        have hrd : decide ((m : Int) < 1) = false := by simp; omega
        have hr2 : (n : Int) ≤ m := by omega
        have hrd2 : decide ((n : Int) ≤ m) = true := by simp; omega
        go_wp2_with (first
          | (rw [zb32]; refine wpList_store_row rfl 23 (.tmp 10) _ rfl (w.heap.size + 1) (zb 32) rfl rfl _ (zb 32) (unhide HZ1) (by rw [zb_size]; exact Tryd.size_dig) rfl (brow_one _) ?_)
          | (refine wpList_store_row rfl 23 (.tmp 11) _ rfl (w.heap.size + 1 + 1) (zb 32) rfl rfl _ (zb 32) (unhide HYD) (by rw [zb_size]; exact Tryd.size_dig) rfl (brow_one _) ?_))
        rw [(unhide HC).1]
        have HC1 := hide (Prod.mk.inj (unhide HC).2).1
        have HC2 := hide (Prod.mk.inj (unhide HC).2).2
        rw [unhide HC1, unhide HC2]
        refine bodyPost_ret (v := .tuple #[.agg (zb 32), .agg (zb 32), .int .i64 4]) ?_ rfl ⟨rfl, unhide HKK⟩
        exact results_cell_cell_tmp rfl _ _ (w.heap.size + 1) (w.heap.size + 1 + 1) _ _ (zb 32) (zb 32) (0, 0) (0, 0) _ _ rfl (unhide HZR) rfl (unhide HYR) Tryd.underlying23 rfl (by rw [zb_size]; exact Tryd.size_dig) Tryd.underlying23 rfl (by rw [zb_size]; exact Tryd.size_dig) _ rfl
    · have hr1 : ¬ (m : Int) < 1 := by omega
      have hrd : decide ((m : Int) < 1) = false := by simp; omega
      have hr2 : ¬ (n : Int) ≤ m := by omega
      have hrd2 : decide ((n : Int) ≤ m) = false := by simp; omega
      have hwd : 1 ≤ z ∧ z ≤ 32 := by simpa [widthB] using hw
      obtain ⟨k, rfl⟩ : ∃ k : Nat, z = k := ⟨z.toNat, by omega⟩
      have HC := hide (by rw [← unhide HE, ← unhide HD]; exact rootsE_c (unhide HF) hr : E = opF (twD k leaf p.reverse m n true) ∧ (D1, D2) = opP (twD k leaf p.reverse m n true))
      go_wp2_with (refine wpList_load_mid rfl 23 _ rfl w.heap.size 0 rfl (leaf.map u8) _ (range_row (unhide HL1)) Tryd.underlying23 rfl (by rw [List.length_map, hll]; exact Tryd.size_dig) ?_)
      refine Calls.mono (two_any k leaf ⟨by omega, by omega⟩ (unhide HL) p.reverse m n true _ _ (by omega) (by omega) hn (by rw [List.reverse_reverse]; exact (unhide HP).old (unhide HK1))) ?_
      rintro e w4 ⟨d4, d5, rfl, g4, g5, q4, k4⟩
      generalize twD k leaf p.reverse m n true = O at HC q4
      have HQ := hide q4
      have hl4 := g4.1
      have hl5 := g5.1
      have HS4 := hide (by rw [List.length_map, hl4]; exact Tryd.size_dig : (Tryd.prog.info? 23).map (·.size) = some (d4.map u8).length)
      have HS5 := hide (by rw [List.length_map, hl5]; exact Tryd.size_dig : (Tryd.prog.info? 23).map (·.size) = some (d5.map u8).length)
      have HA0 := hide (((Kept.refl [] (w4.alloc (.cells (zb 32) 23))).alloc (.cells (zb 32) 23)).heap (heap_alloc_new w4 (.cells (zb 32) 23)) (by simp))
      have HB0 := hide ((setRow_other ((w4.alloc (.cells (zb 32) 23)).alloc (.cells (zb 32) 23)) w4.heap.size (w4.heap.size + 1) (brow d4) (by omega)).trans (alloc_at w4 (.cells (zb 32) 23) (.cells (zb 32) 23)))
      have kab := ((((Kept.refl [] w4).alloc (.cells (zb 32) 23)).alloc (.cells (zb 32) 23)).setRow (g := w4.heap.size) (Or.inr (Nat.le_refl _)) (brow d4)).setRow (g := w4.heap.size + 1) (Or.inr (by omega)) (brow d5)
      have HA1 := hide (range_row ((setRow_other (((w4.alloc (.cells (zb 32) 23)).alloc (.cells (zb 32) 23)).setRow w4.heap.size (brow d4)) (w4.heap.size + 1) w4.heap.size (brow d5) (by omega)).trans (setRow_heap _ _ _ (brow d4) _ _ (unhide HA0))))
      have HB1 := hide (range_row (setRow_heap (((w4.alloc (.cells (zb 32) 23)).alloc (.cells (zb 32) 23)).setRow w4.heap.size (brow d4)) _ _ (brow d5) _ _ (unhide HB0)))
      have hsz4 : w.heap.size + 1 + 1 < w4.heap.size := by have := lt_of_heap (k4.heap (unhide HY1) (by simp)); omega
      have kk := k4.trans kab (by simp)
      have HZN := hide (kk.heap (unhide HZ1) (by simp))
      have HYN := hide (kk.heap (unhide HY1) (by simp))
      have HKN := hide ((unhide HK1).trans kk (by simp))
      clear g4 g5 q4 k4 kab kk HZ1 HY1 HL1
      cases O with
      | some d0 =>
        have HQ2 := hide (unhide HQ d0 rfl)
        have HE2 := hide (by rw [(unhide HC).1]; rfl : E = 0)
        have HD2 := hide (by have h9 := (unhide HC).2; rw [show opP (some d0) = d0 from rfl, ← unhide HQ2] at h9; exact h9 : (D1, D2) = (d4, d5))
        go_wp2_with (first
          | (rw [zb32]; refine wpList_store_row rfl 23 (.tmp 14) _ rfl w4.heap.size (brow d4) rfl rfl _ (zb 32) (unhide HA0) (by rw [brow_size, hl4]; exact Tryd.size_dig) (by rw [zb_size, brow_size, hl4]) (brow_one _) ?_)
          | (refine wpList_store_row rfl 23 (.tmp 15) _ rfl (w4.heap.size + 1) (brow d5) rfl rfl _ (zb 32) (unhide HB0) (by rw [brow_size, hl5]; exact Tryd.size_dig) (by rw [zb_size, brow_size, hl5]) (brow_one _) ?_))
        obtain ⟨Y, hY⟩ : ∃ Y, (((w4.alloc (.cells (zb 32) 23)).alloc (.cells (zb 32) 23)).setRow w4.heap.size (brow d4)).setRow (w4.heap.size + 1) (brow d5) = Y := ⟨_, rfl⟩
        rw [hY] at HA1 HB1 HZN HYN HKN ⊢
        clear hY HA0 HB0
        refine wp_r5 (w.heap.size + 1) (w.heap.size + 1 + 1) (by kernel_rfl) (by kernel_rfl) (by kernel_rfl) (by kernel_rfl) (by kernel_rfl) (by kernel_rfl) (by kernel_rfl) (by kernel_rfl) (by kernel_rfl) (by kernel_rfl) (by kernel_rfl) rfl rfl
          (.agg (d4.map u8).toArray) (.agg (d5.map u8).toArray) (.int .i64 0) _ _ _ _ _ (by simp only [Act.put, List.setIfInBounds_toArray, List.set_cons_zero, List.set_cons_succ]; rfl) (by simp only [Act.put, List.setIfInBounds_toArray, List.set_cons_zero, List.set_cons_succ]; rfl) (by simp only [Act.put, List.setIfInBounds_toArray, List.set_cons_zero, List.set_cons_succ]; rfl) (by simp only [Act.put, List.setIfInBounds_toArray, List.set_cons_zero, List.set_cons_succ]; rfl) (by simp only [Act.put, List.setIfInBounds_toArray, List.set_cons_zero, List.set_cons_succ]; rfl)
          (by exact yieldsIf_load_mid (by rfl) _ _ rfl w4.heap.size 0 rfl (d4.map u8) _ (fun W' hW' => range_kept (unhide HA1) hW' (by simp; omega)) Tryd.underlying23 rfl (unhide HS4))
          (by exact yieldsIf_load_mid (by rfl) _ _ rfl (w4.heap.size + 1) 0 rfl (d5.map u8) _ (fun W' hW' => range_kept (unhide HB1) hW' (by simp; omega)) Tryd.underlying23 rfl (unhide HS5))
          23 23 _ _ _ _ rfl rfl (brow d4) (brow d5) (zb 32) (zb 32) 23 23 (by omega)
          (by rfl) (by rfl) (unhide HZN) (by rw [brow_size, hl4]; exact Tryd.size_dig) (by rw [zb_size, brow_size, hl4]) (brow_one _)
          (by rfl) (by rfl) (unhide HYN) (by rw [brow_size, hl5]; exact Tryd.size_dig) (by rw [zb_size, brow_size, hl5]) (brow_one _)
          (by exact Or.inl ⟨by rfl, fun W' hW' => by go_simp⟩) ?_
        intro w9 k9
        have HH := hide (two_heaps k9 (unhide HZN) (unhide HYN) (by omega) (brow d4) (brow d5))
        have HK9 := hide ((((unhide HKN).trans k9 (by simp)).setRow (g := w.heap.size + 1) (Or.inr (by omega)) (brow d4)).setRow (g := w.heap.size + 1 + 1) (Or.inr (by omega)) (brow d5))
        clear k9
        have HDa := hide (Prod.mk.inj (unhide HD2)).1
        have HDb := hide (Prod.mk.inj (unhide HD2)).2
        go_wp2_with fail
        rw [unhide HE2, unhide HDa, unhide HDb]
        refine bodyPost_ret (v := .tuple #[.agg (brow d4), .agg (brow d5), .int .i64 0]) ?_ rfl ⟨rfl, unhide HK9⟩
        exact results_cell_cell_tmp rfl _ _ (w.heap.size + 1) (w.heap.size + 1 + 1) _ _ (brow d4) (brow d5) (0, 0) (0, 0) _ _ rfl (unhide HH).1 rfl (unhide HH).2 Tryd.underlying23 rfl (by rw [brow_size, hl4]; exact Tryd.size_dig) Tryd.underlying23 rfl (by rw [brow_size, hl5]; exact Tryd.size_dig) _ rfl
      | none =>
        have HE2 := hide (by rw [(unhide HC).1]; rfl : E = 10)
        have HD2 := hide (by rw [(unhide HC).2]; rfl : (D1, D2) = (zD, zD))
        have HDa := hide (Prod.mk.inj (unhide HD2)).1
        have HDb := hide (Prod.mk.inj (unhide HD2)).2
        have HYD := hide ((setRow_other ((((w4.alloc (.cells (zb 32) 23)).alloc (.cells (zb 32) 23)).setRow w4.heap.size (brow d4)).setRow (w4.heap.size + 1) (brow d5)) (w.heap.size + 1) (w.heap.size + 1 + 1) (zb 32) (by omega)).trans (unhide HYN))
        have HH := hide (two_heaps (Kept.refl [] _) (unhide HZN) (unhide HYN) (by omega) (zb 32) (zb 32))
        have HK9 := hide (((unhide HKN).setRow (g := w.heap.size + 1) (Or.inr (by omega)) (zb 32)).setRow (g := w.heap.size + 1 + 1) (Or.inr (by omega)) (zb 32))
        go_wp2_with (first
          | (rw [zb32]; refine wpList_store_row rfl 23 (.tmp 14) _ rfl w4.heap.size (brow d4) rfl rfl _ (zb 32) (unhide HA0) (by rw [brow_size, hl4]; exact Tryd.size_dig) (by rw [zb_size, brow_size, hl4]) (brow_one _) ?_; clear HA0)
          | (refine wpList_store_row rfl 23 (.tmp 15) _ rfl (w4.heap.size + 1) (brow d5) rfl rfl _ (zb 32) (unhide HB0) (by rw [brow_size, hl5]; exact Tryd.size_dig) (by rw [zb_size, brow_size, hl5]) (brow_one _) ?_; clear HB0)
          | (rw [zb32]; refine wpList_store_row rfl 23 (.tmp 10) _ rfl (w.heap.size + 1) (zb 32) rfl rfl _ (zb 32) (unhide HZN) (by rw [zb_size]; exact Tryd.size_dig) rfl (brow_one _) ?_)
          | (refine wpList_store_row rfl 23 (.tmp 11) _ rfl (w.heap.size + 1 + 1) (zb 32) rfl rfl _ (zb 32) (unhide HYD) (by rw [zb_size]; exact Tryd.size_dig) rfl (brow_one _) ?_))
        rw [unhide HE2, unhide HDa, unhide HDb]
        refine bodyPost_ret (v := .tuple #[.agg (zb 32), .agg (zb 32), .int .i64 10]) ?_ rfl ⟨rfl, unhide HK9⟩
        exact results_cell_cell_tmp rfl _ _ (w.heap.size + 1) (w.heap.size + 1 + 1) _ _ (zb 32) (zb 32) (0, 0) (0, 0) _ _ rfl (unhide HH).1 rfl (unhide HH).2 Tryd.underlying23 rfl (by rw [zb_size]; exact Tryd.size_dig) Tryd.underlying23 rfl (by rw [zb_size]; exact Tryd.size_dig) _ rfl
  · have hb : ((f : Int) != 0) = true := by simp; omega
    have hb2 : ((f : Int) == 0) = false := by simp; omega
    have HC := hide (by rw [← unhide HE, ← unhide HD, ← unhide HF]; exact rootsE_f (by rw [unhide HF]; exact hf0) : E = f ∧ (D1, D2) = (zD, zD))
    have HYD := hide ((setRow_other w2 (w.heap.size + 1) (w.heap.size + 1 + 1) (zb 32) (by omega)).trans (unhide HY1))
    have HKK := hide (((unhide HK1).setRow (g := w.heap.size + 1) (Or.inr (by omega)) (zb 32)).setRow (g := w.heap.size + 1 + 1) (Or.inr (by omega)) (zb 32))
    have HZR := hide ((setRow_other (w2.setRow (w.heap.size + 1) (zb 32)) (w.heap.size + 1 + 1) (w.heap.size + 1) (zb 32) (by omega)).trans (setRow_heap w2 _ _ (zb 32) _ _ (unhide HZ1)))
    have HYR := hide (setRow_heap (w2.setRow (w.heap.size + 1) (zb 32)) _ _ (zb 32) _ _ (unhide HYD))
    go_wp2_with (first
      | (rw [zb32]; refine wpList_store_row rfl 23 (.tmp 10) _ rfl (w.heap.size + 1) (zb 32) rfl rfl _ (zb 32) (unhide HZ1) (by rw [zb_size]; exact Tryd.size_dig) rfl (brow_one _) ?_)
      | (refine wpList_store_row rfl 23 (.tmp 11) _ rfl (w.heap.size + 1 + 1) (zb 32) rfl rfl _ (zb 32) (unhide HYD) (by rw [zb_size]; exact Tryd.size_dig) rfl (brow_one _) ?_))
    rw [(unhide HC).1]
    have HC1 := hide (Prod.mk.inj (unhide HC).2).1
    have HC2 := hide (Prod.mk.inj (unhide HC).2).2
    rw [unhide HC1, unhide HC2]
    refine bodyPost_ret (v := .tuple #[.agg (zb 32), .agg (zb 32), .int .i64 f]) ?_ rfl ⟨rfl, unhide HKK⟩
    exact results_cell_cell_tmp rfl _ _ (w.heap.size + 1) (w.heap.size + 1 + 1) _ _ (zb 32) (zb 32) (0, 0) (0, 0) _ _ rfl (unhide HZR) rfl (unhide HYR) Tryd.underlying23 rfl (by rw [zb_size]; exact Tryd.size_dig) Tryd.underlying23 rfl (by rw [zb_size]; exact Tryd.size_dig) _ rfl
end Go.Proofs.YtbljofojeagdkaaDoor
