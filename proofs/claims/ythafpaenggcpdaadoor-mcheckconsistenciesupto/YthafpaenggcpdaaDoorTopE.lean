import Derived.Test.YthafpaenggcpdaaDoorTopD
import Derived.Test.YthafpaenggcpdaaDoorTopC
import Derived.Test.YthafpaenggcpdaaDoorBase
import Derived.Test.YthafpaenggcpdaaDoorCards
import Derived.Test.YthafpaenggcpdaaDoorTie
import Derived.ProofKit
import Derived.OpenShut
import Derived.Deep.Slices
import Derived.SizedLaws
import Derived.Test.YthafpaenggcpdaaDoorRowz
import Derived.Test.YthafpaenggcpdaaDoorTopA
namespace Go.Proofs.YthafpaenggcpdaaDoor
open Go.RowKit Go.BigFrame
set_option linter.unusedVariables false
set_option linter.unusedSimpArgs false

set_option maxRecDepth 100000 in
set_option maxHeartbeats 2000000 in
theorem docRootsOf_any (z : Int) (m n : Nat) (leaf : List Nat) (pv : Value) (p : List (List Nat)) (w : World) (hz : -9223372036854775808 ≤ z ∧ z ≤ 9223372036854775807) (hl : Dg leaf) (hi : m < 18446744073709551616) (hn : n < 18446744073709551616) (hp : RdD w pv p) (hpl : p.length ≤ 1048576) :
    Calls Tryd.prog 16 #[.int .i64 z, .int .u64 m, .int .u64 n, .agg (brow leaf), pv] w fun e w' => e = .returned (.tuple #[.agg (brow (rootsD z leaf m n p).1), .agg (brow (rootsD z leaf m n p).2), .int .i64 (rootsE z leaf m n p)]) ∧ Kept [] w w' := by
  have HP := hide hp
  have hdg := rootsD_dg (z := z) (m := m) (n := n) hl (fun d hd => hp.dg hd)
  obtain ⟨ao, len, cap, rfl, h1, h2, h3, h4, h5⟩ := hp
  clear h4 h5
  subst h1
  have HL := hide hl
  have hll := hl.1
  obtain ⟨D, hD⟩ : ∃ D, rootsD z leaf m n p = D := ⟨_, rfl⟩
  obtain ⟨E, hE⟩ : ∃ E, rootsE z leaf m n p = E := ⟨_, rfl⟩
  have HD := hide hD
  have HE := hide hE
  rw [hD] at hdg
  rw [hD, hE]
  clear hD hE
  obtain ⟨D1, D2⟩ := D
  have hd1 := hdg.1.1
  have hd2 := hdg.2.1
  simp only at hd1 hd2 ⊢
  clear hdg
  go_enter Tryd.func16, Tryd.ntmps16
  have HGL := hide ((((Kept.refl [] (w.alloc (.cells (brow leaf) 23))).alloc (.cells (zb 32) 23)).alloc (.cells (zb 32) 23)).heap (heap_alloc_new w (.cells (brow leaf) 23)) (by simp))
  have HGZ := hide (((Kept.refl [] ((w.alloc (.cells (brow leaf) 23)).alloc (.cells (zb 32) 23))).alloc (.cells (zb 32) 23)).heap (alloc_at w (.cells (brow leaf) 23) (.cells (zb 32) 23)) (by simp))
  have HGY := hide (alloc3_at w (.cells (brow leaf) 23) (.cells (zb 32) 23) (.cells (zb 32) 23))
  have HK0 := hide ((((Kept.refl [] w).alloc (.cells (brow leaf) 23)).alloc (.cells (zb 32) 23)).alloc (.cells (zb 32) 23))
  obtain ⟨W0, hW0⟩ : ∃ W0, ((w.alloc (.cells (brow leaf) 23)).alloc (.cells (zb 32) 23)).alloc (.cells (zb 32) 23) = W0 := ⟨_, rfl⟩
  have hsz : w.heap.size + 1 + 1 + 1 = W0.heap.size := by rw [← hW0]; simp
  have HLIT := hide (own_lit1 W0 leaf hll)
  rw [hW0] at HGL HGZ HGY HK0
  have k0 := (Kept.refl [] W0).alloc (.cells (brow leaf) 23)
  have HK00 := hide k0
  have HP0 := hide ((unhide HP).old ((unhide HK0).trans k0 (by simp)))
  clear k0
  go_wp2_with (first
    | (rw [zb32, hW0]; refine wpList_load_mid rfl 23 _ rfl w.heap.size 0 rfl (leaf.map u8) _ (range_row (unhide HGL)) Tryd.underlying23 rfl (by rw [List.length_map, hll]; exact Tryd.size_dig) ?_)
    | (at_builtin; rw [zb32, one_dig leaf hll]; refine wpList_appendD rfl (.tmp 19) (.tmp 20) rfl rfl _ W0.heap.size (.slice (some ⟨W0.heap.size, 0, none⟩) 1 1) [leaf] p ao p.length cap (by exact unhide HLIT) (by exact unhide HP0) (by simp; omega) (by simp) rfl rfl ?_; intro ao1 cap1 w1 HO1 HG1; have HKG := hide ((unhide HK00).grown (unhide HG1) (by intro k hk; right; simp [Value.ownBlock] at hk; omega)); clear HG1))
  have HR1 := hide (rdd_owns (unhide HO1) (fun d hd => by rcases List.mem_append.1 hd with h | h; simp at h; subst h; exact unhide HL; exact (unhide HP).dg h))
  have HK1' := hide ((unhide HK0).trans (unhide HKG) (by simp))
  have HL1' := hide ((unhide HKG).heap (unhide HGL) (by simp))
  have HZ1' := hide ((unhide HKG).heap (unhide HGZ) (by simp))
  have HY1' := hide ((unhide HKG).heap (unhide HGY) (by simp))
  clear HGL HGZ HGY HO1 HKG HLIT HK00 HP0 hW0
  refine Calls.mono (refCheck_any z _ ([leaf] ++ p) _ hz (unhide HR1)) ?_
  rintro e w2 ⟨rfl, k2⟩
  have HK1 := hide ((unhide HK1').trans k2 (by simp))
  have HL1 := hide (k2.heap (unhide HL1') (by simp))
  have HZ1 := hide (k2.heap (unhide HZ1') (by simp))
  have HY1 := hide (k2.heap (unhide HY1') (by simp))
  clear k2 HK1' HL1' HZ1' HY1' HR1
  obtain ⟨f, hf⟩ : ∃ f, formedE z ([leaf] ++ p) = f := ⟨_, rfl⟩
  have HF := hide (show formedE z (leaf :: p) = f from hf)
  rw [hf]
  clear hf
  by_cases hf0 : f = 0
  · subst hf0
    obtain ⟨hw, hff⟩ := formedE_zero (unhide HF)
    by_cases hr : m = 0 ∨ n ≤ m
    · have HC := hide (by rw [← unhide HE, ← unhide HD]; exact rootsE_r (unhide HF) hr : E = 4 ∧ (D1, D2) = (zD, zD))
      have HYD := hide ((setRow_other w2 (w.heap.size + 1) (w.heap.size + 1 + 1) (zb 32) (by omega)).trans (unhide HY1))
      have HKK := hide (((unhide HK1).setRow (g := w.heap.size + 1) (Or.inr (by omega)) (zb 32)).setRow (g := w.heap.size + 1 + 1) (Or.inr (by omega)) (zb 32))
      have HZR := hide ((setRow_other (w2.setRow (w.heap.size + 1) (zb 32)) (w.heap.size + 1 + 1) (w.heap.size + 1) (zb 32) (by omega)).trans (setRow_heap w2 _ _ (zb 32) _ _ (unhide HZ1)))
      have HYR := hide (setRow_heap (w2.setRow (w.heap.size + 1) (zb 32)) _ _ (zb 32) _ _ (unhide HYD))
      by_cases hm0 : m = 0
      · have hr1 : (m : Int) < 1 := by omega
        have hrd : decide ((m : Int) < 1) = true := by simp; omega
        go_wp2_with (first
          | (rw [zb32]; refine wpList_store_row rfl 23 (.tmp 10) _ rfl (w.heap.size + 1) (zb 32) rfl rfl _ (zb 32) (unhide HZ1) (by rw [zb_size]; exact Tryd.size_dig) rfl (brow_one _) ?_)
          | (refine wpList_store_row rfl 23 (.tmp 11) _ rfl (w.heap.size + 1 + 1) (zb 32) rfl rfl _ (zb 32) (unhide HYD) (by rw [zb_size]; exact Tryd.size_dig) rfl (brow_one _) ?_))
        rw [(unhide HC).1]
        have HC1 := hide (Prod.mk.inj (unhide HC).2).1
        have HC2 := hide (Prod.mk.inj (unhide HC).2).2
        rw [unhide HC1, unhide HC2]
        refine bodyPost_ret (v := .tuple #[.agg (zb 32), .agg (zb 32), .int .i64 4]) ?_ rfl ⟨rfl, unhide HKK⟩
        exact results_cell_cell_tmp rfl _ _ (w.heap.size + 1) (w.heap.size + 1 + 1) _ _ (zb 32) (zb 32) (0, 0) (0, 0) _ _ rfl (unhide HZR) rfl (unhide HYR) Tryd.underlying23 rfl (by rw [zb_size]; exact Tryd.size_dig) Tryd.underlying23 rfl (by rw [zb_size]; exact Tryd.size_dig) _ rfl
      · have hr1 : ¬ (m : Int) < 1 := by omega
        have hrd : decide ((m : Int) < 1) = false := by simp; omega
        have hr2 : (n : Int) ≤ m := by omega
        have hrd2 : decide ((n : Int) ≤ m) = true := by simp; omega
        go_wp2_with (first
          | (rw [zb32]; refine wpList_store_row rfl 23 (.tmp 10) _ rfl (w.heap.size + 1) (zb 32) rfl rfl _ (zb 32) (unhide HZ1) (by rw [zb_size]; exact Tryd.size_dig) rfl (brow_one _) ?_)
          | (refine wpList_store_row rfl 23 (.tmp 11) _ rfl (w.heap.size + 1 + 1) (zb 32) rfl rfl _ (zb 32) (unhide HYD) (by rw [zb_size]; exact Tryd.size_dig) rfl (brow_one _) ?_))
        rw [(unhide HC).1]
        have HC1 := hide (Prod.mk.inj (unhide HC).2).1
        have HC2 := hide (Prod.mk.inj (unhide HC).2).2
        rw [unhide HC1, unhide HC2]
        refine bodyPost_ret (v := .tuple #[.agg (zb 32), .agg (zb 32), .int .i64 4]) ?_ rfl ⟨rfl, unhide HKK⟩
        exact results_cell_cell_tmp rfl _ _ (w.heap.size + 1) (w.heap.size + 1 + 1) _ _ (zb 32) (zb 32) (0, 0) (0, 0) _ _ rfl (unhide HZR) rfl (unhide HYR) Tryd.underlying23 rfl (by rw [zb_size]; exact Tryd.size_dig) Tryd.underlying23 rfl (by rw [zb_size]; exact Tryd.size_dig) _ rfl
    · have hr1 : ¬ (m : Int) < 1 := by omega
      have hrd : decide ((m : Int) < 1) = false := by simp; omega
      have hr2 : ¬ (n : Int) ≤ m := by omega
      have hrd2 : decide ((n : Int) ≤ m) = false := by simp; omega
      have hwd : 1 ≤ z ∧ z ≤ 32 := by simpa [widthB] using hw
      obtain ⟨k, rfl⟩ : ∃ k : Nat, z = k := ⟨z.toNat, by omega⟩
      have HC := hide (by rw [← unhide HE, ← unhide HD]; exact rootsE_c (unhide HF) hr : E = opF (twD k leaf p.reverse m n true) ∧ (D1, D2) = opP (twD k leaf p.reverse m n true))
      go_wp2_with (refine wpList_load_mid rfl 23 _ rfl w.heap.size 0 rfl (leaf.map u8) _ (range_row (unhide HL1)) Tryd.underlying23 rfl (by rw [List.length_map, hll]; exact Tryd.size_dig) ?_)
      refine Calls.mono (two_any k leaf ⟨by omega, by omega⟩ (unhide HL) p.reverse m n true _ _ (by omega) (by omega) hn (by rw [List.reverse_reverse]; exact (unhide HP).old (unhide HK1))) ?_
      rintro e w4 ⟨d4, d5, rfl, g4, g5, q4, k4⟩
      generalize twD k leaf p.reverse m n true = O at HC q4
      have HQ := hide q4
      have hl4 := g4.1
      have hl5 := g5.1
      have HS4 := hide (by rw [List.length_map, hl4]; exact Tryd.size_dig : (Tryd.prog.info? 23).map (·.size) = some (d4.map u8).length)
      have HS5 := hide (by rw [List.length_map, hl5]; exact Tryd.size_dig : (Tryd.prog.info? 23).map (·.size) = some (d5.map u8).length)
      have HA0 := hide (((Kept.refl [] (w4.alloc (.cells (zb 32) 23))).alloc (.cells (zb 32) 23)).heap (heap_alloc_new w4 (.cells (zb 32) 23)) (by simp))
      have HB0 := hide ((setRow_other ((w4.alloc (.cells (zb 32) 23)).alloc (.cells (zb 32) 23)) w4.heap.size (w4.heap.size + 1) (brow d4) (by omega)).trans (alloc_at w4 (.cells (zb 32) 23) (.cells (zb 32) 23)))
      have kab := ((((Kept.refl [] w4).alloc (.cells (zb 32) 23)).alloc (.cells (zb 32) 23)).setRow (g := w4.heap.size) (Or.inr (Nat.le_refl _)) (brow d4)).setRow (g := w4.heap.size + 1) (Or.inr (by omega)) (brow d5)
      have HA1 := hide (range_row ((setRow_other (((w4.alloc (.cells (zb 32) 23)).alloc (.cells (zb 32) 23)).setRow w4.heap.size (brow d4)) (w4.heap.size + 1) w4.heap.size (brow d5) (by omega)).trans (setRow_heap _ _ _ (brow d4) _ _ (unhide HA0))))
      have HB1 := hide (range_row (setRow_heap (((w4.alloc (.cells (zb 32) 23)).alloc (.cells (zb 32) 23)).setRow w4.heap.size (brow d4)) _ _ (brow d5) _ _ (unhide HB0)))
      have hsz4 : w.heap.size + 1 + 1 < w4.heap.size := by have := lt_of_heap (k4.heap (unhide HY1) (by simp)); omega
      have kk := k4.trans kab (by simp)
      have HZN := hide (kk.heap (unhide HZ1) (by simp))
      have HYN := hide (kk.heap (unhide HY1) (by simp))
      have HKN := hide ((unhide HK1).trans kk (by simp))
      clear g4 g5 q4 k4 kab kk HZ1 HY1 HL1
      cases O with
      | some d0 =>
        have HQ2 := hide (unhide HQ d0 rfl)
        have HE2 := hide (by rw [(unhide HC).1]; rfl : E = 0)
        have HD2 := hide (by have h9 := (unhide HC).2; rw [show opP (some d0) = d0 from rfl, ← unhide HQ2] at h9; exact h9 : (D1, D2) = (d4, d5))
        go_wp2_with (first
          | (rw [zb32]; refine wpList_store_row rfl 23 (.tmp 14) _ rfl w4.heap.size (brow d4) rfl rfl _ (zb 32) (unhide HA0) (by rw [brow_size, hl4]; exact Tryd.size_dig) (by rw [zb_size, brow_size, hl4]) (brow_one _) ?_)
          | (refine wpList_store_row rfl 23 (.tmp 15) _ rfl (w4.heap.size + 1) (brow d5) rfl rfl _ (zb 32) (unhide HB0) (by rw [brow_size, hl5]; exact Tryd.size_dig) (by rw [zb_size, brow_size, hl5]) (brow_one _) ?_))
        obtain ⟨Y, hY⟩ : ∃ Y, (((w4.alloc (.cells (zb 32) 23)).alloc (.cells (zb 32) 23)).setRow w4.heap.size (brow d4)).setRow (w4.heap.size + 1) (brow d5) = Y := ⟨_, rfl⟩
        rw [hY] at HA1 HB1 HZN HYN HKN ⊢
        clear hY HA0 HB0
        refine wp_r5 (w.heap.size + 1) (w.heap.size + 1 + 1) (by kernel_rfl) (by kernel_rfl) (by kernel_rfl) (by kernel_rfl) (by kernel_rfl) (by kernel_rfl) (by kernel_rfl) (by kernel_rfl) (by kernel_rfl) (by kernel_rfl) (by kernel_rfl) rfl rfl
          (.agg (d4.map u8).toArray) (.agg (d5.map u8).toArray) (.int .i64 0) _ _ _ _ _ (by simp only [Act.put, List.setIfInBounds_toArray, List.set_cons_zero, List.set_cons_succ]; rfl) (by simp only [Act.put, List.setIfInBounds_toArray, List.set_cons_zero, List.set_cons_succ]; rfl) (by simp only [Act.put, List.setIfInBounds_toArray, List.set_cons_zero, List.set_cons_succ]; rfl) (by simp only [Act.put, List.setIfInBounds_toArray, List.set_cons_zero, List.set_cons_succ]; rfl) (by simp only [Act.put, List.setIfInBounds_toArray, List.set_cons_zero, List.set_cons_succ]; rfl)
          (by exact yieldsIf_load_mid (by rfl) _ _ rfl w4.heap.size 0 rfl (d4.map u8) _ (fun W' hW' => range_kept (unhide HA1) hW' (by simp; omega)) Tryd.underlying23 rfl (unhide HS4))
          (by exact yieldsIf_load_mid (by rfl) _ _ rfl (w4.heap.size + 1) 0 rfl (d5.map u8) _ (fun W' hW' => range_kept (unhide HB1) hW' (by simp; omega)) Tryd.underlying23 rfl (unhide HS5))
          23 23 _ _ _ _ rfl rfl (brow d4) (brow d5) (zb 32) (zb 32) 23 23 (by omega)
          (by rfl) (by rfl) (unhide HZN) (by rw [brow_size, hl4]; exact Tryd.size_dig) (by rw [zb_size, brow_size, hl4]) (brow_one _)
          (by rfl) (by rfl) (unhide HYN) (by rw [brow_size, hl5]; exact Tryd.size_dig) (by rw [zb_size, brow_size, hl5]) (brow_one _)
          (by exact Or.inl ⟨by rfl, fun W' hW' => by go_simp⟩) ?_
        intro w9 k9
        have HH := hide (two_heaps k9 (unhide HZN) (unhide HYN) (by omega) (brow d4) (brow d5))
        have HK9 := hide ((((unhide HKN).trans k9 (by simp)).setRow (g := w.heap.size + 1) (Or.inr (by omega)) (brow d4)).setRow (g := w.heap.size + 1 + 1) (Or.inr (by omega)) (brow d5))
        clear k9
        have HDa := hide (Prod.mk.inj (unhide HD2)).1
        have HDb := hide (Prod.mk.inj (unhide HD2)).2
        go_wp2_with fail
        rw [unhide HE2, unhide HDa, unhide HDb]
        refine bodyPost_ret (v := .tuple #[.agg (brow d4), .agg (brow d5), .int .i64 0]) ?_ rfl ⟨rfl, unhide HK9⟩
        exact results_cell_cell_tmp rfl _ _ (w.heap.size + 1) (w.heap.size + 1 + 1) _ _ (brow d4) (brow d5) (0, 0) (0, 0) _ _ rfl (unhide HH).1 rfl (unhide HH).2 Tryd.underlying23 rfl (by rw [brow_size, hl4]; exact Tryd.size_dig) Tryd.underlying23 rfl (by rw [brow_size, hl5]; exact Tryd.size_dig) _ rfl
      | none =>
        have HE2 := hide (by rw [(unhide HC).1]; rfl : E = 10)
        have HD2 := hide (by rw [(unhide HC).2]; rfl : (D1, D2) = (zD, zD))
        have HDa := hide (Prod.mk.inj (unhide HD2)).1
        have HDb := hide (Prod.mk.inj (unhide HD2)).2
        have HYD := hide ((setRow_other ((((w4.alloc (.cells (zb 32) 23)).alloc (.cells (zb 32) 23)).setRow w4.heap.size (brow d4)).setRow (w4.heap.size + 1) (brow d5)) (w.heap.size + 1) (w.heap.size + 1 + 1) (zb 32) (by omega)).trans (unhide HYN))
        have HH := hide (two_heaps (Kept.refl [] _) (unhide HZN) (unhide HYN) (by omega) (zb 32) (zb 32))
        have HK9 := hide (((unhide HKN).setRow (g := w.heap.size + 1) (Or.inr (by omega)) (zb 32)).setRow (g := w.heap.size + 1 + 1) (Or.inr (by omega)) (zb 32))
        go_wp2_with (first
          | (rw [zb32]; refine wpList_store_row rfl 23 (.tmp 14) _ rfl w4.heap.size (brow d4) rfl rfl _ (zb 32) (unhide HA0) (by rw [brow_size, hl4]; exact Tryd.size_dig) (by rw [zb_size, brow_size, hl4]) (brow_one _) ?_; clear HA0)
          | (refine wpList_store_row rfl 23 (.tmp 15) _ rfl (w4.heap.size + 1) (brow d5) rfl rfl _ (zb 32) (unhide HB0) (by rw [brow_size, hl5]; exact Tryd.size_dig) (by rw [zb_size, brow_size, hl5]) (brow_one _) ?_; clear HB0)
          | (rw [zb32]; refine wpList_store_row rfl 23 (.tmp 10) _ rfl (w.heap.size + 1) (zb 32) rfl rfl _ (zb 32) (unhide HZN) (by rw [zb_size]; exact Tryd.size_dig) rfl (brow_one _) ?_)
          | (refine wpList_store_row rfl 23 (.tmp 11) _ rfl (w.heap.size + 1 + 1) (zb 32) rfl rfl _ (zb 32) (unhide HYD) (by rw [zb_size]; exact Tryd.size_dig) rfl (brow_one _) ?_))
        rw [unhide HE2, unhide HDa, unhide HDb]
        refine bodyPost_ret (v := .tuple #[.agg (zb 32), .agg (zb 32), .int .i64 10]) ?_ rfl ⟨rfl, unhide HK9⟩
        exact results_cell_cell_tmp rfl _ _ (w.heap.size + 1) (w.heap.size + 1 + 1) _ _ (zb 32) (zb 32) (0, 0) (0, 0) _ _ rfl (unhide HH).1 rfl (unhide HH).2 Tryd.underlying23 rfl (by rw [zb_size]; exact Tryd.size_dig) Tryd.underlying23 rfl (by rw [zb_size]; exact Tryd.size_dig) _ rfl
  · have hb : ((f : Int) != 0) = true := by simp; omega
    have hb2 : ((f : Int) == 0) = false := by simp; omega
    have HC := hide (by rw [← unhide HE, ← unhide HD, ← unhide HF]; exact rootsE_f (by rw [unhide HF]; exact hf0) : E = f ∧ (D1, D2) = (zD, zD))
    have HYD := hide ((setRow_other w2 (w.heap.size + 1) (w.heap.size + 1 + 1) (zb 32) (by omega)).trans (unhide HY1))
    have HKK := hide (((unhide HK1).setRow (g := w.heap.size + 1) (Or.inr (by omega)) (zb 32)).setRow (g := w.heap.size + 1 + 1) (Or.inr (by omega)) (zb 32))
    have HZR := hide ((setRow_other (w2.setRow (w.heap.size + 1) (zb 32)) (w.heap.size + 1 + 1) (w.heap.size + 1) (zb 32) (by omega)).trans (setRow_heap w2 _ _ (zb 32) _ _ (unhide HZ1)))
    have HYR := hide (setRow_heap (w2.setRow (w.heap.size + 1) (zb 32)) _ _ (zb 32) _ _ (unhide HYD))
    go_wp2_with (first
      | (rw [zb32]; refine wpList_store_row rfl 23 (.tmp 10) _ rfl (w.heap.size + 1) (zb 32) rfl rfl _ (zb 32) (unhide HZ1) (by rw [zb_size]; exact Tryd.size_dig) rfl (brow_one _) ?_)
      | (refine wpList_store_row rfl 23 (.tmp 11) _ rfl (w.heap.size + 1 + 1) (zb 32) rfl rfl _ (zb 32) (unhide HYD) (by rw [zb_size]; exact Tryd.size_dig) rfl (brow_one _) ?_))
    rw [(unhide HC).1]
    have HC1 := hide (Prod.mk.inj (unhide HC).2).1
    have HC2 := hide (Prod.mk.inj (unhide HC).2).2
    rw [unhide HC1, unhide HC2]
    refine bodyPost_ret (v := .tuple #[.agg (zb 32), .agg (zb 32), .int .i64 f]) ?_ rfl ⟨rfl, unhide HKK⟩
    exact results_cell_cell_tmp rfl _ _ (w.heap.size + 1) (w.heap.size + 1 + 1) _ _ (zb 32) (zb 32) (0, 0) (0, 0) _ _ rfl (unhide HZR) rfl (unhide HYR) Tryd.underlying23 rfl (by rw [zb_size]; exact Tryd.size_dig) Tryd.underlying23 rfl (by rw [zb_size]; exact Tryd.size_dig) _ rfl
end Go.Proofs.YthafpaenggcpdaaDoor
namespace Go.Proofs.YthafpaenggcpdaaDoor
open Go.RowKit Go.BigFrame
set_option linter.unusedVariables false
set_option linter.unusedSimpArgs false

theorem formedE_allC {z : Int} {ds : List (List Nat)} (hw : widthB z = true) (h : ∀ d ∈ ds, formB z d = true) : formedE z ds = 0 := by
  unfold formedE
  rw [if_neg (by rw [hw]; simp), if_pos (List.all_eq_true.2 h)]
theorem own_lit2 (w : World) (l m : List Nat) (hl : l.length = 32) (hm : m.length = 32) : (w.alloc (.cells (l.map u8 ++ m.map u8).toArray 23)).ownsRow w.heap.size 23 32 (.slice (some ⟨w.heap.size, 0, none⟩) 2 2) ([l, m] : List (List Nat)).length (flatD [l, m]) := by
  have h := World.ownsRow_lit (base := w.heap.size) (e := 23) (size := 32) w (l.map u8 ++ m.map u8).toArray 2 (Nat.le_refl _) (by unfold maxLen; omega) (by simp [hl, hm])
  have e : (l.map u8 ++ m.map u8).toArray.toList = flatD [l, m] := by simp [flatD]
  rw [e] at h
  exact h
theorem rootsE_two {z : Int} {old : List Nat} {m n : Nat} {p : List (List Nat)} (h : formedE z (old :: p) = 0) (hr : ¬ (m = 0 ∨ n ≤ m)) : rootsE z old m n p = 0 ∨ rootsE z old m n p = 10 := by
  rw [(rootsE_c h hr).1]
  unfold opF
  split <;> simp

set_option maxRecDepth 100000 in
set_option maxHeartbeats 8000000 in
theorem docConsistency_any (z : Int) (m n : Nat) (leaf root : List Nat) (pv : Value) (p : List (List Nat)) (w : World) (hz : -9223372036854775808 ≤ z ∧ z ≤ 9223372036854775807) (hl : Dg leaf) (hr : Dg root) (hi : m < 18446744073709551616) (hn : n < 18446744073709551616) (hp : RdD w pv p) (hpl : p.length ≤ 1048576) :
    Calls Tryd.prog 18 #[.int .i64 z, .int .u64 m, .int .u64 n, .agg (brow leaf), .agg (brow root), pv] w fun e w' => e = .returned (.int .i64 (conE z m n leaf root p)) ∧ Kept [] w w' := by
  have HP := hide hp
  obtain ⟨ao, len, cap, rfl, h1, h2, h3, h4, h5⟩ := hp
  clear h4 h5
  subst h1
  have HL := hide hl
  have HR := hide hr
  have hll := hl.1
  have hrl := hr.1
  obtain ⟨E, hE⟩ : ∃ E, conE z m n leaf root p = E := ⟨_, rfl⟩
  have HE := hide hE
  rw [hE]
  clear hE
  go_enter Tryd.func18, Tryd.ntmps18
  have HGL := hide (((Kept.refl [] (w.alloc (.cells (brow leaf) 23))).alloc (.cells (brow root) 23)).heap (heap_alloc_new w (.cells (brow leaf) 23)) (by simp))
  have HGR := hide (alloc_at w (.cells (brow leaf) 23) (.cells (brow root) 23))
  have HK0 := hide (((Kept.refl [] w).alloc (.cells (brow leaf) 23)).alloc (.cells (brow root) 23))
  have HSL := hide (by rw [List.length_map, hll]; exact Tryd.size_dig : (Tryd.prog.info? 23).map (·.size) = some (leaf.map u8).length)
  have HSM := hide (by rw [List.length_map, hrl]; exact Tryd.size_dig : (Tryd.prog.info? 23).map (·.size) = some (root.map u8).length)
  have hfs : ∀ A : Array Value, (List.foldl (fun cs x => cs.setIfInBounds x.snd x.fst) A (List.map u8 leaf).zipIdx).size = A.size := fun A => fold_size _ A 0
  obtain ⟨W0, hW0⟩ : ∃ W0, (w.alloc (.cells (brow leaf) 23)).alloc (.cells (brow root) 23) = W0 := ⟨_, rfl⟩
  have HLIT := hide (own_lit2 W0 leaf root hll hrl)
  have hsz : w.heap.size + 1 + 1 = W0.heap.size := by rw [← hW0]; simp
  rw [hW0] at HGL HGR HK0
  have k0 := (Kept.refl [] W0).alloc (.cells (leaf.map u8 ++ root.map u8).toArray 23)
  have HK00 := hide k0
  have HP0 := hide ((unhide HP).old ((unhide HK0).trans k0 (by simp)))
  clear k0
  go_wp2_with (first
    | (refine wpList_load_mid rfl 23 _ rfl w.heap.size 0 rfl (leaf.map u8) _ (range_row (unhide HGL)) Tryd.underlying23 rfl (unhide HSL) ?_)
    | (refine wpList_load_mid rfl 23 _ rfl (w.heap.size + 1) 0 rfl (root.map u8) _ (range_row (unhide HGR)) Tryd.underlying23 rfl (unhide HSM) ?_)
    | (at_builtin; rw [zb64, two_digs leaf root hll hrl]; refine wpList_appendD rfl (.tmp 21) (.tmp 22) rfl rfl _ W0.heap.size (.slice (some ⟨W0.heap.size, 0, none⟩) 2 2) [leaf, root] p ao p.length cap (by exact unhide HLIT) (by exact unhide HP0) (by simp; omega) (by simp) rfl rfl ?_; intro ao1 cap1 w1 HO1 HG1; have HKG := hide ((unhide HK00).grown (unhide HG1) (by intro k hk; right; simp [Value.ownBlock] at hk; omega)); clear HG1))
  have HR1 := hide (rdd_owns (unhide HO1) (fun d hd => by rcases List.mem_append.1 hd with h | h; simp at h; rcases h with rfl | rfl; exact unhide HL; exact unhide HR; exact (unhide HP).dg h))
  have HK1' := hide ((unhide HK0).trans (unhide HKG) (by simp))
  have HL1' := hide ((unhide HKG).heap (unhide HGL) (by simp))
  have HM1' := hide ((unhide HKG).heap (unhide HGR) (by simp))
  clear HGL HGR HO1 HKG HLIT HK00 HP0 hW0 hfs
  refine Calls.mono (refCheck_any z _ ([leaf, root] ++ p) _ hz (unhide HR1)) ?_
  rintro e w2 ⟨rfl, k2⟩
  have HK1 := hide ((unhide HK1').trans k2 (by simp))
  have HL1 := hide (k2.heap (unhide HL1') (by simp))
  have HM1 := hide (k2.heap (unhide HM1') (by simp))
  clear k2 HK1' HL1' HM1' HR1
  obtain ⟨f, hf⟩ : ∃ f, formedE z ([leaf, root] ++ p) = f := ⟨_, rfl⟩
  have HF := hide (show formedE z (leaf :: root :: p) = f from hf)
  rw [hf]
  clear hf
  by_cases hf0 : f = 0
  · subst hf0
    obtain ⟨hw, hff⟩ := formedE_zero (unhide HF)
    have HFL := hide (formedE_allC hw (by intro d hd; rcases List.mem_cons.1 hd with rfl | h; exact hff _ (by simp); exact hff d (by simp [h])) : formedE z (leaf :: p) = 0)
    clear hff
    have HE0 := hide (by rw [← unhide HE]; unfold conE; rw [if_neg (by rw [unhide HF]; simp)] : E = if n < m then 4 else if m = n then (if p = [] ∧ leaf = root then 0 else 10) else if m = 0 then (if p = [] ∧ leaf = sumD z [] then 0 else 10) else if rootsE z leaf m n p ≠ 0 then rootsE z leaf m n p else if (rootsD z leaf m n p).1 = leaf ∧ (rootsD z leaf m n p).2 = root then 0 else 10)
    by_cases hgt : n < m
    · have hgt' : (n : Int) < m := by omega
      have HC := hide (by rw [unhide HE0, if_pos hgt] : E = 4)
      go_wp2
      go_ret
      exact ⟨by rw [unhide HC]; rfl, unhide HK1⟩
    · have hgt' : ¬ (n : Int) < m := by omega
      by_cases hmn : m = n
      · have hmn' : ((m : Int) == n) = true := by simp; omega
        have hqd : ∀ W, (Op.equalIn 10000 23 (.agg (leaf.map u8).toArray) (.agg (root.map u8).toArray)).run Tryd.prog W = .ok (decide (leaf = root)) W := fun W => dig_eq W leaf root hll hrl
        by_cases hp0 : p.length = 0
        · have hp0' : ((p.length : Int) == 0) = true := by rw [beq_iff_eq]; omega
          by_cases h9 : leaf = root
          · have HC := hide (by rw [unhide HE0, if_neg hgt, if_pos hmn, if_pos ⟨nil_of_len.2 hp0, h9⟩] : E = 0)
            rw [decide_eq_true h9] at hqd
            clear h9
            go_wp2_with (first
              | (refine wpList_load_midG rfl 23 _ rfl w.heap.size 0 rfl (leaf.map u8) _ (range_row (unhide HL1)) Tryd.underlying23 rfl (unhide HSL) ?_)
              | (refine wpList_load_midG rfl 23 _ rfl (w.heap.size + 1) 0 rfl (root.map u8) _ (range_row (unhide HM1)) Tryd.underlying23 rfl (unhide HSM) ?_))
            go_ret
            exact ⟨by rw [unhide HC]; rfl, unhide HK1⟩
          · have HC := hide (by rw [unhide HE0, if_neg hgt, if_pos hmn, if_neg (fun h => h9 h.2)] : E = 10)
            rw [decide_eq_false h9] at hqd
            clear h9
            go_wp2_with (first
              | (refine wpList_load_midG rfl 23 _ rfl w.heap.size 0 rfl (leaf.map u8) _ (range_row (unhide HL1)) Tryd.underlying23 rfl (unhide HSL) ?_)
              | (refine wpList_load_midG rfl 23 _ rfl (w.heap.size + 1) 0 rfl (root.map u8) _ (range_row (unhide HM1)) Tryd.underlying23 rfl (unhide HSM) ?_))
            go_ret
            exact ⟨by rw [unhide HC]; rfl, unhide HK1⟩
        · have hp0' : ((p.length : Int) == 0) = false := by rw [beq_eq_false_iff_ne]; omega
          have HC := hide (by rw [unhide HE0, if_neg hgt, if_pos hmn, if_neg (fun h => hp0 (nil_of_len.1 h.1))] : E = 10)
          go_wp2
          go_ret
          exact ⟨by rw [unhide HC]; rfl, unhide HK1⟩
      · have hmn' : ((m : Int) == n) = false := by simp; omega
        have hwd : 1 ≤ z ∧ z ≤ 32 := by simpa [widthB] using hw
        by_cases hm0 : m = 0
        · have hm0' : ((m : Int) == 0) = true := by simp; omega
          by_cases hp0 : p.length = 0
          · have hp0' : ((p.length : Int) == 0) = true := by rw [beq_iff_eq]; omega
            obtain ⟨k, rfl⟩ : ∃ k : Nat, z = k := ⟨z.toNat, by omega⟩
            have HNL := hide (by unfold sumD; rw [if_pos hw, Int.toNat_natCast] : sumD (k : Int) [] = cutL k (hash []))
            have hnl := cutL_len k (hash []) (by omega) (hash_len [])
            go_wp2_with fail
            obtain ⟨D, hD⟩ : ∃ D, cutL k (hash []) = D := ⟨_, rfl⟩
            rw [hD] at HNL hnl
            have HCT := hide (fun w' (hw' : Kept [] w2 w') => (refNoLog_any k w' (by omega)).mono (fun e w3 (h3 : _ ∧ _) => (⟨by rw [← hD]; exact h3.1, hw'.trans h3.2 (by simp)⟩ : e = .returned (.agg (brow D)) ∧ Kept [] w2 w3)))
            clear hD
            have hqd : ∀ W, (Op.equalIn 10000 23 (.agg (brow leaf)) (.agg (brow D))).run Tryd.prog W = .ok (decide (leaf = D)) W := fun W => dig_eq W leaf D hll hnl
            have hne : ∀ q : Prop, (∀ w', Kept [] w2 w' → q) = q := fun q => propext ⟨fun h => h w2 (Kept.refl [] w2), fun h _ _ => h⟩
            have HZZ := hide (by rw [brow_size, hll]; exact Tryd.size_dig : (Tryd.prog.info? 23).map (·.size) = some (brow leaf).size)
            obtain ⟨q, hq⟩ : ∃ q : Bool, decide (leaf = D) = q := ⟨_, rfl⟩
            rw [hq] at hqd
            have HCQ := hide (by rw [unhide HE0, if_neg hgt, if_neg hmn, if_pos hm0, unhide HNL]; by_cases h9 : leaf = D; rw [if_pos ⟨nil_of_len.2 hp0, h9⟩, ← hq]; simp [h9]; rw [if_neg (fun h => h9 h.2), ← hq]; simp [h9] : E = if q = true then 0 else 10)
            clear hq
            refine wp_region_keep (by kernel_rfl) (by kernel_rfl) ?_
            iterate 4 (go_big_quiet_step (fail))
            refine wpQuiet_row rfl 23 (.tmp 9) rfl w.heap.size rfl _ (brow leaf) (0, 0) _ (fun w' hw' => hw'.heap (unhide HL1) (by simp)) Tryd.underlying23 rfl (unhide HZZ) ?_
            simp only [Act.put, List.setIfInBounds_toArray, List.set_cons_succ, List.set_cons_zero]
            go_big_quiet_step (fail)
            go_big_quiet_want
            go_big_quiet_op
            apply Exists.intro
            refine ⟨fun w' hw' => ?_, ?_⟩
            · exact unhide HCT w' hw'
            go_big_quiet_on
            refine wpQuiet_val rfl (.bool q) (fun w' _ => run_eql 23 (.tmp 73) (.tmp 75) 23 rfl (brow leaf) (brow D) rfl rfl w' q (by kernel_rfl) (hqd w')) ?_
            simp only [Act.put, List.setIfInBounds_toArray, List.set_cons_succ, List.set_cons_zero]
            repeat (go_big_quiet_step (fail))
            refine wpQuiet_nil ?_
            intro w5 hw5
            have HK3 := hide ((unhide HK1).trans hw5 (by simp))
            clear hw5 hne hqd
            cases q with
            | true =>
              have HC := hide (by rw [unhide HCQ]; rfl : E = 0)
              go_wp2
              go_ret
              exact ⟨by rw [unhide HC]; rfl, unhide HK3⟩
            | false =>
              have HC := hide (by rw [unhide HCQ]; rfl : E = 10)
              go_wp2
              go_ret
              exact ⟨by rw [unhide HC]; rfl, unhide HK3⟩
          · have hp0' : ((p.length : Int) == 0) = false := by rw [beq_eq_false_iff_ne]; omega
            have HC := hide (by rw [unhide HE0, if_neg hgt, if_neg hmn, if_pos hm0, if_neg (fun h => hp0 (nil_of_len.1 h.1))] : E = 10)
            have hne : ∀ q : Prop, (∀ w', Kept [] w2 w' → q) = q := fun q => propext ⟨fun h => h w2 (Kept.refl [] w2), fun h _ _ => h⟩
            go_wp2_with fail
            refine wp_region_keep (by kernel_rfl) (by kernel_rfl) ?_
            repeat (go_big_quiet_step (fail))
            refine wpQuiet_nil ?_
            intro w5 hw5
            have HK3 := hide ((unhide HK1).trans hw5 (by simp))
            clear hw5 hne
            go_wp2
            go_ret
            exact ⟨by rw [unhide HC]; rfl, unhide HK3⟩
        · have hm0' : ((m : Int) == 0) = false := by simp; omega
          have hdg := rootsD_dg (z := z) (m := m) (n := n) (unhide HL) (fun d hd => (unhide HP).dg hd)
          have hG2 := rootsE_two (m := m) (n := n) (unhide HFL) (by omega)
          go_wp2_with (refine wpList_load_mid rfl 23 _ rfl w.heap.size 0 rfl (leaf.map u8) _ (range_row (unhide HL1)) Tryd.underlying23 rfl (unhide HSL) ?_)
          refine Calls.mono (docRootsOf_any z m n leaf _ p _ hz (unhide HL) hi hn ((unhide HP).old (unhide HK1)) hpl) ?_
          rintro e w2' ⟨rfl, k2⟩
          obtain ⟨G, hG⟩ : ∃ G, rootsE z leaf m n p = G := ⟨_, rfl⟩
          obtain ⟨D, hD⟩ : ∃ D, rootsD z leaf m n p = D := ⟨_, rfl⟩
          rw [hD] at hdg
          rw [hG] at hG2
          have HE1 := hide (by rw [unhide HE0, if_neg hgt, if_neg hmn, if_neg hm0, hG, hD] : E = if G ≠ 0 then G else if D.1 = leaf ∧ D.2 = root then 0 else 10)
          rw [hG, hD]
          clear hG hD
          obtain ⟨D1, D2⟩ := D
          have hl4 := hdg.1.1
          have hl5 := hdg.2.1
          simp only at hl4 hl5 HE1 ⊢
          have HS4 := hide (by rw [List.length_map, hl4]; exact Tryd.size_dig : (Tryd.prog.info? 23).map (·.size) = some (D1.map u8).length)
          have HS5 := hide (by rw [List.length_map, hl5]; exact Tryd.size_dig : (Tryd.prog.info? 23).map (·.size) = some (D2.map u8).length)
          have HA0 := hide (((Kept.refl [] (w2'.alloc (.cells (zb 32) 23))).alloc (.cells (zb 32) 23)).heap (heap_alloc_new w2' (.cells (zb 32) 23)) (by simp))
          have HB0 := hide ((setRow_other ((w2'.alloc (.cells (zb 32) 23)).alloc (.cells (zb 32) 23)) w2'.heap.size (w2'.heap.size + 1) (brow D1) (by omega)).trans (alloc_at w2' (.cells (zb 32) 23) (.cells (zb 32) 23)))
          have kab := ((((Kept.refl [] w2').alloc (.cells (zb 32) 23)).alloc (.cells (zb 32) 23)).setRow (g := w2'.heap.size) (Or.inr (Nat.le_refl _)) (brow D1)).setRow (g := w2'.heap.size + 1) (Or.inr (by omega)) (brow D2)
          have HA1 := hide (range_row ((setRow_other (((w2'.alloc (.cells (zb 32) 23)).alloc (.cells (zb 32) 23)).setRow w2'.heap.size (brow D1)) (w2'.heap.size + 1) w2'.heap.size (brow D2) (by omega)).trans (setRow_heap _ _ _ (brow D1) _ _ (unhide HA0))))
          have HB1 := hide (range_row (setRow_heap (((w2'.alloc (.cells (zb 32) 23)).alloc (.cells (zb 32) 23)).setRow w2'.heap.size (brow D1)) _ _ (brow D2) _ _ (unhide HB0)))
          have kk := k2.trans kab (by simp)
          have HL3 := hide (range_row (kk.heap (unhide HL1) (by simp)))
          have HR3 := hide (range_row (kk.heap (unhide HM1) (by simp)))
          have HK3 := hide ((unhide HK1).trans kk (by simp))
          clear k2 kab kk hdg
          have hqa : ∀ W, (Op.equalIn 10000 23 (.agg (D1.map u8).toArray) (.agg (leaf.map u8).toArray)).run Tryd.prog W = .ok (decide (D1 = leaf)) W := fun W => dig_eq W D1 leaf hl4 hll
          have hqb : ∀ W, (Op.equalIn 10000 23 (.agg (D2.map u8).toArray) (.agg (root.map u8).toArray)).run Tryd.prog W = .ok (decide (D2 = root)) W := fun W => dig_eq W D2 root hl5 hrl
          by_cases hG0 : G = 0
          · subst hG0
            by_cases h1a : D1 = leaf
            · rw [decide_eq_true h1a] at hqa
              by_cases h1b : D2 = root
              · rw [decide_eq_true h1b] at hqb
                have HC := hide (by rw [unhide HE1, if_neg (by simp), if_pos ⟨h1a, h1b⟩] : E = 0)
                clear h1a h1b
                go_wp2_with (first
                  | (rw [zb32]; refine wpList_store_row rfl 23 _ _ rfl w2'.heap.size (brow D1) rfl rfl _ (zb 32) (unhide HA0) (by rw [brow_size, hl4]; exact Tryd.size_dig) (by rw [zb_size, brow_size, hl4]) (brow_one _) ?_; clear HA0)
                  | (refine wpList_store_row rfl 23 _ _ rfl (w2'.heap.size + 1) (brow D2) rfl rfl _ (zb 32) (unhide HB0) (by rw [brow_size, hl5]; exact Tryd.size_dig) (by rw [zb_size, brow_size, hl5]) (brow_one _) ?_; clear HB0)
                  | (refine wpList_load_midG rfl 23 _ rfl w2'.heap.size 0 rfl (D1.map u8) _ (unhide HA1) Tryd.underlying23 rfl (unhide HS4) ?_)
                  | (refine wpList_load_midG rfl 23 _ rfl (w2'.heap.size + 1) 0 rfl (D2.map u8) _ (unhide HB1) Tryd.underlying23 rfl (unhide HS5) ?_)
                  | (refine wpList_load_midG rfl 23 _ rfl w.heap.size 0 rfl (leaf.map u8) _ (unhide HL3) Tryd.underlying23 rfl (unhide HSL) ?_)
                  | (refine wpList_load_midG rfl 23 _ rfl (w.heap.size + 1) 0 rfl (root.map u8) _ (unhide HR3) Tryd.underlying23 rfl (unhide HSM) ?_))
                go_ret
                exact ⟨by rw [unhide HC]; rfl, unhide HK3⟩
              · rw [decide_eq_false h1b] at hqb
                have HC := hide (by rw [unhide HE1, if_neg (by simp), if_neg (fun h => h1b h.2)] : E = 10)
                clear h1a h1b
                go_wp2_with (first
                  | (rw [zb32]; refine wpList_store_row rfl 23 _ _ rfl w2'.heap.size (brow D1) rfl rfl _ (zb 32) (unhide HA0) (by rw [brow_size, hl4]; exact Tryd.size_dig) (by rw [zb_size, brow_size, hl4]) (brow_one _) ?_; clear HA0)
                  | (refine wpList_store_row rfl 23 _ _ rfl (w2'.heap.size + 1) (brow D2) rfl rfl _ (zb 32) (unhide HB0) (by rw [brow_size, hl5]; exact Tryd.size_dig) (by rw [zb_size, brow_size, hl5]) (brow_one _) ?_; clear HB0)
                  | (refine wpList_load_midG rfl 23 _ rfl w2'.heap.size 0 rfl (D1.map u8) _ (unhide HA1) Tryd.underlying23 rfl (unhide HS4) ?_)
                  | (refine wpList_load_midG rfl 23 _ rfl (w2'.heap.size + 1) 0 rfl (D2.map u8) _ (unhide HB1) Tryd.underlying23 rfl (unhide HS5) ?_)
                  | (refine wpList_load_midG rfl 23 _ rfl w.heap.size 0 rfl (leaf.map u8) _ (unhide HL3) Tryd.underlying23 rfl (unhide HSL) ?_)
                  | (refine wpList_load_midG rfl 23 _ rfl (w.heap.size + 1) 0 rfl (root.map u8) _ (unhide HR3) Tryd.underlying23 rfl (unhide HSM) ?_))
                go_ret
                exact ⟨by rw [unhide HC]; rfl, unhide HK3⟩
            · rw [decide_eq_false h1a] at hqa
              have HC := hide (by rw [unhide HE1, if_neg (by simp), if_neg (fun h => h1a h.1)] : E = 10)
              clear h1a
              go_wp2_with (first
                | (rw [zb32]; refine wpList_store_row rfl 23 _ _ rfl w2'.heap.size (brow D1) rfl rfl _ (zb 32) (unhide HA0) (by rw [brow_size, hl4]; exact Tryd.size_dig) (by rw [zb_size, brow_size, hl4]) (brow_one _) ?_; clear HA0)
                | (refine wpList_store_row rfl 23 _ _ rfl (w2'.heap.size + 1) (brow D2) rfl rfl _ (zb 32) (unhide HB0) (by rw [brow_size, hl5]; exact Tryd.size_dig) (by rw [zb_size, brow_size, hl5]) (brow_one _) ?_; clear HB0)
                | (refine wpList_load_midG rfl 23 _ rfl w2'.heap.size 0 rfl (D1.map u8) _ (unhide HA1) Tryd.underlying23 rfl (unhide HS4) ?_)
                | (refine wpList_load_midG rfl 23 _ rfl (w2'.heap.size + 1) 0 rfl (D2.map u8) _ (unhide HB1) Tryd.underlying23 rfl (unhide HS5) ?_)
                | (refine wpList_load_midG rfl 23 _ rfl w.heap.size 0 rfl (leaf.map u8) _ (unhide HL3) Tryd.underlying23 rfl (unhide HSL) ?_)
                | (refine wpList_load_midG rfl 23 _ rfl (w.heap.size + 1) 0 rfl (root.map u8) _ (unhide HR3) Tryd.underlying23 rfl (unhide HSM) ?_))
              go_ret
              exact ⟨by rw [unhide HC]; rfl, unhide HK3⟩
          · have hb : ((G : Int) == 0) = false := by simp; omega
            have HC := hide (by rw [unhide HE1, if_pos hG0]; omega : E = 10)
            go_wp2_with (first
              | (rw [zb32]; refine wpList_store_row rfl 23 _ _ rfl w2'.heap.size (brow D1) rfl rfl _ (zb 32) (unhide HA0) (by rw [brow_size, hl4]; exact Tryd.size_dig) (by rw [zb_size, brow_size, hl4]) (brow_one _) ?_; clear HA0)
              | (refine wpList_store_row rfl 23 _ _ rfl (w2'.heap.size + 1) (brow D2) rfl rfl _ (zb 32) (unhide HB0) (by rw [brow_size, hl5]; exact Tryd.size_dig) (by rw [zb_size, brow_size, hl5]) (brow_one _) ?_; clear HB0)
              | (refine wpList_load_midG rfl 23 _ rfl w2'.heap.size 0 rfl (D1.map u8) _ (unhide HA1) Tryd.underlying23 rfl (unhide HS4) ?_)
              | (refine wpList_load_midG rfl 23 _ rfl (w2'.heap.size + 1) 0 rfl (D2.map u8) _ (unhide HB1) Tryd.underlying23 rfl (unhide HS5) ?_)
              | (refine wpList_load_midG rfl 23 _ rfl w.heap.size 0 rfl (leaf.map u8) _ (unhide HL3) Tryd.underlying23 rfl (unhide HSL) ?_)
              | (refine wpList_load_midG rfl 23 _ rfl (w.heap.size + 1) 0 rfl (root.map u8) _ (unhide HR3) Tryd.underlying23 rfl (unhide HSM) ?_))
            go_ret
            exact ⟨by rw [unhide HC]; rfl, unhide HK3⟩
  · have hb : ((f : Int) != 0) = true := by simp; omega
    have HC := hide (by rw [← unhide HE, ← unhide HF]; unfold conE; rw [if_pos (by rw [unhide HF]; exact hf0)] : E = f)
    go_wp2
    go_ret
    exact ⟨by rw [unhide HC]; rfl, unhide HK1⟩
end Go.Proofs.YthafpaenggcpdaaDoor
namespace Go.Proofs.YthafpaenggcpdaaDoor
open Go.RowKit Go.BigFrame
set_option linter.unusedVariables false
set_option linter.unusedSimpArgs false

set_option maxRecDepth 100000 in
set_option maxHeartbeats 2000000 in
theorem mcheckConsistencies_walk (q : AskD) (pv : Value) (w : World) (hq : OkA w q pv) (hT : Tabs w) :
    Calls Tryd.prog 6 #[.agg (askC q pv).toArray] w fun e w' => e = .returned (.bool true) ∧ Below w.heap.size w w' := by
  have HT := hide hT
  have HQ := hide hq
  have hll := hq.l.1
  have hrl := hq.r.1
  obtain ⟨ao, len, cap, rfl, h1, h2, h3, h4, h5⟩ := id hq.p
  clear hT h4 h5 hq
  have HG := hide (heap_alloc_new w (.cells (askC q (.slice ao len cap)).toArray 27))
  have HK0 := hide ((Kept.refl [] w).alloc (.cells (askC q (.slice ao len cap)).toArray 27))
  have HSL := hide (by rw [List.length_map, hll]; exact Tryd.size_dig : (Tryd.prog.info? 23).map (·.size) = some (q.l.map u8).length)
  have HSR := hide (by rw [List.length_map, hrl]; exact Tryd.size_dig : (Tryd.prog.info? 23).map (·.size) = some (q.r.map u8).length)
  go_enter Tryd.func6, Tryd.ntmps6
  go_wp2_with fail
  obtain ⟨W, hW⟩ : ∃ W, w.alloc (.cells (askC q (.slice ao len cap)).toArray 27) = W := ⟨_, rfl⟩
  rw [hW] at HG HK0 ⊢
  clear hW
  obtain ⟨c0, r1, ⟨c33, c34, c35⟩, r36⟩ := ask_cells (unhide HG) hll
  have HTW := hide ((unhide HT).k (unhide HK0))
  have HQW := hide ((unhide HQ).old (unhide HK0))
  have HSK := hide (fun w1 (k : Kept [] W w1) => ⟨k, range_kept r1 k (by simp), range_kept r36 k (by simp), k.cell c0 (by simp), k.cell c33 (by simp), k.cell c34 (by simp), k.cell c35 (by simp)⟩ : ∀ w1, Kept [] W w1 → Kept [] W w1 ∧ w1.rangeAt w.heap.size 1 (q.l.map u8) ∧ w1.rangeAt w.heap.size 36 (q.r.map u8) ∧ w1.cell? ⟨w.heap.size, 0, none⟩ = some (.int .i64 q.z) ∧ w1.cell? ⟨w.heap.size, 33, none⟩ = some (.int .u64 (q.i : Int)) ∧ w1.cell? ⟨w.heap.size, 34, none⟩ = some (.int .u64 (q.n : Int)) ∧ w1.cell? ⟨w.heap.size, 35, none⟩ = some (.slice ao len cap))
  clear r1 r36 c0 c33 c34 c35
  refine wp_con12 (fun w' => Kept [] W w' ∧ w'.rangeAt w.heap.size 1 (q.l.map u8) ∧ w'.rangeAt w.heap.size 36 (q.r.map u8) ∧ w'.cell? ⟨w.heap.size, 0, none⟩ = some (.int .i64 q.z) ∧ w'.cell? ⟨w.heap.size, 33, none⟩ = some (.int .u64 (q.i : Int)) ∧ w'.cell? ⟨w.heap.size, 34, none⟩ = some (.int .u64 (q.n : Int)) ∧ w'.cell? ⟨w.heap.size, 35, none⟩ = some (.slice ao len cap)) (by kernel_rfl) (by kernel_rfl) (by kernel_rfl) (by kernel_rfl) (by kernel_rfl) (by kernel_rfl) (by kernel_rfl) (by kernel_rfl) (by kernel_rfl) (by kernel_rfl) (by kernel_rfl) (by kernel_rfl) (by kernel_rfl) (by kernel_rfl) (by kernel_rfl) (by kernel_rfl) (by kernel_rfl) (by kernel_rfl) (by kernel_rfl) (by kernel_rfl) (by kernel_rfl) (by kernel_rfl) (by kernel_rfl) (by kernel_rfl) (by kernel_rfl) (by kernel_rfl) (by kernel_rfl) (by kernel_rfl) (by kernel_rfl) (by kernel_rfl) (by kernel_rfl) rfl rfl
    (unhide HSK _ (Kept.refl [] W).drew) (.pointer (some ⟨w.heap.size, 0, none⟩)) (.int .i64 q.z) (.pointer (some ⟨w.heap.size, 33, none⟩)) (.int .u64 (q.i : Int)) (.pointer (some ⟨w.heap.size, 34, none⟩)) (.int .u64 (q.n : Int)) (.pointer (some ⟨w.heap.size, 1, none⟩)) (.agg (q.l.map u8).toArray) (.pointer (some ⟨w.heap.size, 36, none⟩)) (.agg (q.r.map u8).toArray) (.pointer (some ⟨w.heap.size, 35, none⟩)) (.slice ao len cap)
    _ _ _ _ _ _ _ _ _ _ _ _ (by simp only [Act.put, List.setIfInBounds_toArray, List.set_cons_zero, List.set_cons_succ]; rfl) (by simp only [Act.put, List.setIfInBounds_toArray, List.set_cons_zero, List.set_cons_succ]; rfl) (by simp only [Act.put, List.setIfInBounds_toArray, List.set_cons_zero, List.set_cons_succ]; rfl) (by simp only [Act.put, List.setIfInBounds_toArray, List.set_cons_zero, List.set_cons_succ]; rfl) (by simp only [Act.put, List.setIfInBounds_toArray, List.set_cons_zero, List.set_cons_succ]; rfl) (by simp only [Act.put, List.setIfInBounds_toArray, List.set_cons_zero, List.set_cons_succ]; rfl) (by simp only [Act.put, List.setIfInBounds_toArray, List.set_cons_zero, List.set_cons_succ]; rfl) (by simp only [Act.put, List.setIfInBounds_toArray, List.set_cons_zero, List.set_cons_succ]; rfl) (by simp only [Act.put, List.setIfInBounds_toArray, List.set_cons_zero, List.set_cons_succ]; rfl) (by simp only [Act.put, List.setIfInBounds_toArray, List.set_cons_zero, List.set_cons_succ]; rfl) (by simp only [Act.put, List.setIfInBounds_toArray, List.set_cons_zero, List.set_cons_succ]; rfl) (by simp only [Act.put, List.setIfInBounds_toArray, List.set_cons_zero, List.set_cons_succ]; rfl)
    (by exact Or.inl ⟨by rfl, fun W' hW' => by go_simp⟩)
    (by exact Or.inl ⟨by rfl, fun W' hW' => by have h9 := hW'.2.2.2.1; go_simp⟩)
    (by exact Or.inl ⟨by rfl, fun W' hW' => by go_simp⟩)
    (by exact Or.inl ⟨by rfl, fun W' hW' => by have h9 := hW'.2.2.2.2.1; go_simp⟩)
    (by exact Or.inl ⟨by rfl, fun W' hW' => by go_simp⟩)
    (by exact Or.inl ⟨by rfl, fun W' hW' => by have h9 := hW'.2.2.2.2.2.1; go_simp⟩)
    (by exact Or.inl ⟨by rfl, fun W' hW' => by go_simp⟩)
    (by exact yieldsIf_load_mid (by rfl) _ _ rfl w.heap.size 1 rfl (q.l.map u8) _ (fun W' hW' => hW'.2.1) Tryd.underlying23 rfl (unhide HSL))
    (by exact Or.inl ⟨by rfl, fun W' hW' => by go_simp⟩)
    (by exact yieldsIf_load_mid (by rfl) _ _ rfl w.heap.size 36 rfl (q.r.map u8) _ (fun W' hW' => hW'.2.2.1) Tryd.underlying23 rfl (unhide HSR))
    (by exact Or.inl ⟨by rfl, fun W' hW' => by go_simp⟩)
    (by exact Or.inl ⟨by rfl, fun W' hW' => by have h9 := hW'.2.2.2.2.2.2; go_simp⟩)
    (fun u w1 => RdD w1 u q.p ∧ Kept [] W w1) (by intro K hK; exact wp_twinD (.tmp 21) _ rfl (.slice ao len cap) q.p rfl ((unhide HQW).p.old (Kept.refl [] W).drew) (unhide HQ).pl (fun u w1 h => hK u w1 ⟨h.1, (Kept.refl [] W).drew.trans h.2 (by simp)⟩)) (fun u w1 h => unhide HSK w1 h.2)
    (fun u w1 v w2 => v = .int .i64 (conE q.z q.i q.n q.l q.r q.p) ∧ Kept [] W w2) (by intro u w1 h1 K hK; exact wp_cons (.tmp 11) (.tmp 13) (.tmp 15) (.tmp 17) (.tmp 19) (.tmp 22) _ rfl q.z q.i q.n q.l q.r u q.p rfl rfl rfl rfl rfl rfl (unhide HQ).z (unhide HQ).l (unhide HQ).r (unhide HQ).i (unhide HQ).n h1.1 ((unhide HTW).k h1.2) (fun v w2 h => hK v w2 ⟨h.1, h1.2.trans h.2 (by simp)⟩)) (fun u w1 v w2 h1 h2 => unhide HSK w2 h2.2)
    (by intro u w1 v w2 h1 h2; exact Or.inl ⟨by rfl, fun W' hW' => by go_simp⟩) ?_
  rintro u3 w3 v4 w4 ⟨_, _⟩ ⟨rfl, k4⟩
  simp only [Act.put, List.setIfInBounds_toArray, List.set_cons_zero, List.set_cons_succ]
  have HG4 := hide (k4.heap (unhide HG) (by simp))
  have HK4 := hide ((unhide HK0).trans k4 (by simp))
  have HQ4 := hide ((unhide HQ).old (unhide HK4))
  clear k4
  obtain ⟨c0, r1, ⟨c33, c34, c35⟩, r36⟩ := ask_cells (unhide HG4) hll
  have HR1 := hide r1
  have HR36 := hide r36
  clear r1 r36
  go_wp2_with (first
    | (refine wpList_load_mid rfl 23 _ rfl w.heap.size 1 rfl (q.l.map u8) _ (unhide HR1) Tryd.underlying23 rfl (unhide HSL) ?_)
    | (refine wpList_load_mid rfl 23 _ rfl w.heap.size 36 rfl (q.r.map u8) _ (unhide HR36) Tryd.underlying23 rfl (unhide HSR) ?_))
  refine Calls.mono (docConsistency_any q.z q.i q.n q.l q.r _ q.p _ (unhide HQ).z (unhide HQ).l (unhide HQ).r (unhide HQ).i (unhide HQ).n (unhide HQ4).p (unhide HQ).pl) ?_
  rintro e w6 ⟨rfl, k6⟩
  have HG6 := hide (k6.heap (unhide HG4) (by simp))
  have HK6 := hide ((unhide HK4).trans k6 (by simp))
  have HQ6 := hide ((unhide HQ).old (unhide HK6))
  clear k6 c0 c33 c34 c35 HR1 HR36 HG4
  obtain ⟨E1, hE1⟩ : ∃ E1, conE q.z q.i q.n q.l q.r q.p = E1 := ⟨_, rfl⟩
  rw [hE1]
  clear hE1
  obtain ⟨c0, r1, ⟨c33, c34, c35⟩, r36⟩ := ask_cells (unhide HG6) hll
  have HR1 := hide r1
  clear r1 r36
  go_wp2_with (refine wpList_load_mid rfl 23 _ rfl w.heap.size 1 rfl (q.l.map u8) _ (unhide HR1) Tryd.underlying23 rfl (unhide HSL) ?_)
  refine Calls.mono (docRootsOf_any q.z q.i q.n q.l _ q.p _ (unhide HQ).z (unhide HQ).l (unhide HQ).i (unhide HQ).n (unhide HQ6).p (unhide HQ).pl) ?_
  rintro e w8 ⟨rfl, k8⟩
  have hdg := rootsD_dg (z := q.z) (m := q.i) (n := q.n) (unhide HQ).l (fun d hd => (unhide HQ).p.dg hd)
  obtain ⟨C, hC⟩ : ∃ C, rootsD q.z q.l q.i q.n q.p = C := ⟨_, rfl⟩
  rw [hC] at hdg ⊢
  clear hC
  obtain ⟨C1, C2⟩ := C
  have HC1 := hide hdg.1
  have HC2 := hide hdg.2
  have hl4 := hdg.1.1
  have hl5 := hdg.2.1
  simp only at HC1 HC2 hl4 hl5 ⊢
  clear hdg
  have HS4 := hide (by rw [List.length_map, hl4]; exact Tryd.size_dig : (Tryd.prog.info? 23).map (·.size) = some (C1.map u8).length)
  have HS5 := hide (by rw [List.length_map, hl5]; exact Tryd.size_dig : (Tryd.prog.info? 23).map (·.size) = some (C2.map u8).length)
  have HA0 := hide (((Kept.refl [] (w8.alloc (.cells (zb 32) 23))).alloc (.cells (zb 32) 23)).heap (heap_alloc_new w8 (.cells (zb 32) 23)) (by simp))
  have HB0 := hide ((setRow_other ((w8.alloc (.cells (zb 32) 23)).alloc (.cells (zb 32) 23)) w8.heap.size (w8.heap.size + 1) (brow C1) (by omega)).trans (alloc_at w8 (.cells (zb 32) 23) (.cells (zb 32) 23)))
  have kab := ((((Kept.refl [] w8).alloc (.cells (zb 32) 23)).alloc (.cells (zb 32) 23)).setRow (g := w8.heap.size) (Or.inr (Nat.le_refl _)) (brow C1)).setRow (g := w8.heap.size + 1) (Or.inr (by omega)) (brow C2)
  have HA1 := hide (range_row ((setRow_other (((w8.alloc (.cells (zb 32) 23)).alloc (.cells (zb 32) 23)).setRow w8.heap.size (brow C1)) (w8.heap.size + 1) w8.heap.size (brow C2) (by omega)).trans (setRow_heap _ _ _ (brow C1) _ _ (unhide HA0))))
  have HB1 := hide (range_row (setRow_heap (((w8.alloc (.cells (zb 32) 23)).alloc (.cells (zb 32) 23)).setRow w8.heap.size (brow C1)) _ _ (brow C2) _ _ (unhide HB0)))
  have kk := k8.trans kab (by simp)
  have HG9 := hide (kk.heap (unhide HG6) (by simp))
  have HK9 := hide ((unhide HK6).trans kk (by simp))
  have HQ9 := hide ((unhide HQ).old (unhide HK9))
  clear k8 kab kk c0 c33 c34 c35 HR1 HG6
  go_wp2_with (first
    | (rw [zb32]; refine wpList_store_row rfl 23 _ _ rfl w8.heap.size (brow C1) rfl rfl _ (zb 32) (unhide HA0) (by rw [brow_size, hl4]; exact Tryd.size_dig) (by rw [zb_size, brow_size, hl4]) (brow_one _) ?_; clear HA0)
    | (refine wpList_store_row rfl 23 _ _ rfl (w8.heap.size + 1) (brow C2) rfl rfl _ (zb 32) (unhide HB0) (by rw [brow_size, hl5]; exact Tryd.size_dig) (by rw [zb_size, brow_size, hl5]) (brow_one _) ?_; clear HB0))
  obtain ⟨Y, hY⟩ : ∃ Y, (((w8.alloc (.cells (zb 32) 23)).alloc (.cells (zb 32) 23)).setRow w8.heap.size (brow C1)).setRow (w8.heap.size + 1) (brow C2) = Y := ⟨_, rfl⟩
  rw [hY] at HA1 HB1 HG9 HK9 HQ9 ⊢
  clear hY
  obtain ⟨c0, r1, ⟨c33, c34, c35⟩, r36⟩ := ask_cells (unhide HG9) hll
  have HTY := hide ((unhide HT).k (unhide HK9))
  have HSY := hide (fun w1 (k : Kept [] Y w1) => ⟨k, range_kept (unhide HA1) k (by simp), range_kept (unhide HB1) k (by simp), k.cell c0 (by simp), k.cell c33 (by simp), k.cell c34 (by simp), k.cell c35 (by simp)⟩ : ∀ w1, Kept [] Y w1 → Kept [] Y w1 ∧ w1.rangeAt w8.heap.size 0 (C1.map u8) ∧ w1.rangeAt (w8.heap.size + 1) 0 (C2.map u8) ∧ w1.cell? ⟨w.heap.size, 0, none⟩ = some (.int .i64 q.z) ∧ w1.cell? ⟨w.heap.size, 33, none⟩ = some (.int .u64 (q.i : Int)) ∧ w1.cell? ⟨w.heap.size, 34, none⟩ = some (.int .u64 (q.n : Int)) ∧ w1.cell? ⟨w.heap.size, 35, none⟩ = some (.slice ao len cap))
  clear r1 r36 c0 c33 c34 c35 HSK
  refine wp_con10 (fun w' => Kept [] Y w' ∧ w'.rangeAt w8.heap.size 0 (C1.map u8) ∧ w'.rangeAt (w8.heap.size + 1) 0 (C2.map u8) ∧ w'.cell? ⟨w.heap.size, 0, none⟩ = some (.int .i64 q.z) ∧ w'.cell? ⟨w.heap.size, 33, none⟩ = some (.int .u64 (q.i : Int)) ∧ w'.cell? ⟨w.heap.size, 34, none⟩ = some (.int .u64 (q.n : Int)) ∧ w'.cell? ⟨w.heap.size, 35, none⟩ = some (.slice ao len cap)) (by kernel_rfl) (by kernel_rfl) (by kernel_rfl) (by kernel_rfl) (by kernel_rfl) (by kernel_rfl) (by kernel_rfl) (by kernel_rfl) (by kernel_rfl) (by kernel_rfl) (by kernel_rfl) (by kernel_rfl) (by kernel_rfl) (by kernel_rfl) (by kernel_rfl) (by kernel_rfl) (by kernel_rfl) (by kernel_rfl) (by kernel_rfl) (by kernel_rfl) (by kernel_rfl) (by kernel_rfl) (by kernel_rfl) (by kernel_rfl) (by kernel_rfl) (by kernel_rfl) (by kernel_rfl) rfl rfl
    (unhide HSY _ (Kept.refl [] Y).drew) (.pointer (some ⟨w.heap.size, 0, none⟩)) (.int .i64 q.z) (.pointer (some ⟨w.heap.size, 33, none⟩)) (.int .u64 (q.i : Int)) (.pointer (some ⟨w.heap.size, 34, none⟩)) (.int .u64 (q.n : Int)) (.agg (C1.map u8).toArray) (.agg (C2.map u8).toArray) (.pointer (some ⟨w.heap.size, 35, none⟩)) (.slice ao len cap)
    _ _ _ _ _ _ _ _ _ _ (by simp only [Act.put, List.setIfInBounds_toArray, List.set_cons_zero, List.set_cons_succ]; rfl) (by simp only [Act.put, List.setIfInBounds_toArray, List.set_cons_zero, List.set_cons_succ]; rfl) (by simp only [Act.put, List.setIfInBounds_toArray, List.set_cons_zero, List.set_cons_succ]; rfl) (by simp only [Act.put, List.setIfInBounds_toArray, List.set_cons_zero, List.set_cons_succ]; rfl) (by simp only [Act.put, List.setIfInBounds_toArray, List.set_cons_zero, List.set_cons_succ]; rfl) (by simp only [Act.put, List.setIfInBounds_toArray, List.set_cons_zero, List.set_cons_succ]; rfl) (by simp only [Act.put, List.setIfInBounds_toArray, List.set_cons_zero, List.set_cons_succ]; rfl) (by simp only [Act.put, List.setIfInBounds_toArray, List.set_cons_zero, List.set_cons_succ]; rfl) (by simp only [Act.put, List.setIfInBounds_toArray, List.set_cons_zero, List.set_cons_succ]; rfl) (by simp only [Act.put, List.setIfInBounds_toArray, List.set_cons_zero, List.set_cons_succ]; rfl)
    (by exact Or.inl ⟨by rfl, fun W' hW' => by go_simp⟩)
    (by exact Or.inl ⟨by rfl, fun W' hW' => by have h9 := hW'.2.2.2.1; go_simp⟩)
    (by exact Or.inl ⟨by rfl, fun W' hW' => by go_simp⟩)
    (by exact Or.inl ⟨by rfl, fun W' hW' => by have h9 := hW'.2.2.2.2.1; go_simp⟩)
    (by exact Or.inl ⟨by rfl, fun W' hW' => by go_simp⟩)
    (by exact Or.inl ⟨by rfl, fun W' hW' => by have h9 := hW'.2.2.2.2.2.1; go_simp⟩)
    (by exact yieldsIf_load_mid (by rfl) _ _ rfl w8.heap.size 0 rfl (C1.map u8) _ (fun W' hW' => hW'.2.1) Tryd.underlying23 rfl (unhide HS4))
    (by exact yieldsIf_load_mid (by rfl) _ _ rfl (w8.heap.size + 1) 0 rfl (C2.map u8) _ (fun W' hW' => hW'.2.2.1) Tryd.underlying23 rfl (unhide HS5))
    (by exact Or.inl ⟨by rfl, fun W' hW' => by go_simp⟩)
    (by exact Or.inl ⟨by rfl, fun W' hW' => by have h9 := hW'.2.2.2.2.2.2; go_simp⟩)
    (fun u w1 => RdD w1 u q.p ∧ Kept [] Y w1) (by intro K hK; exact wp_twinD (.tmp 61) _ rfl (.slice ao len cap) q.p rfl ((unhide HQ9).p.old (Kept.refl [] Y).drew) (unhide HQ).pl (fun u w1 h => hK u w1 ⟨h.1, (Kept.refl [] Y).drew.trans h.2 (by simp)⟩)) (fun u w1 h => unhide HSY w1 h.2)
    (fun u w1 v w2 => v = .int .i64 (conE q.z q.i q.n C1 C2 q.p) ∧ Kept [] Y w2) (by intro u w1 h1 K hK; exact wp_cons (.tmp 53) (.tmp 55) (.tmp 57) (.tmp 58) (.tmp 59) (.tmp 62) _ rfl q.z q.i q.n C1 C2 u q.p rfl rfl rfl rfl rfl rfl (unhide HQ).z (unhide HC1) (unhide HC2) (unhide HQ).i (unhide HQ).n h1.1 ((unhide HTY).k h1.2) (fun v w2 h => hK v w2 ⟨h.1, h1.2.trans h.2 (by simp)⟩)) (fun u w1 v w2 h1 h2 => unhide HSY w2 h2.2)
    (by intro u w1 v w2 h1 h2; exact Or.inl ⟨by rfl, fun W' hW' => by go_simp⟩) ?_
  rintro u10 w10 v11 w11 ⟨_, _⟩ ⟨rfl, k11⟩
  simp only [Act.put, List.setIfInBounds_toArray, List.set_cons_zero, List.set_cons_succ]
  have HG11 := hide (k11.heap (unhide HG9) (by simp))
  have HA11 := hide (range_kept (unhide HA1) k11 (by simp))
  have HB11 := hide (range_kept (unhide HB1) k11 (by simp))
  have HK11 := hide ((unhide HK9).trans k11 (by simp))
  have HQ11 := hide ((unhide HQ).old (unhide HK11))
  clear k11
  obtain ⟨c0, r1, ⟨c33, c34, c35⟩, r36⟩ := ask_cells (unhide HG11) hll
  clear r1 r36
  go_wp2_with (first
    | (refine wpList_load_mid rfl 23 _ rfl w8.heap.size 0 rfl (C1.map u8) _ (unhide HA11) Tryd.underlying23 rfl (unhide HS4) ?_)
    | (refine wpList_load_mid rfl 23 _ rfl (w8.heap.size + 1) 0 rfl (C2.map u8) _ (unhide HB11) Tryd.underlying23 rfl (unhide HS5) ?_))
  refine Calls.mono (docConsistency_any q.z q.i q.n C1 C2 _ q.p _ (unhide HQ).z (unhide HC1) (unhide HC2) (unhide HQ).i (unhide HQ).n (unhide HQ11).p (unhide HQ).pl) ?_
  rintro e w13 ⟨rfl, k13⟩
  have HK13 := hide ((unhide HK11).trans k13 (by simp))
  clear k13 c0 c33 c34 c35
  obtain ⟨E2, hE2⟩ : ∃ E2, conE q.z q.i q.n C1 C2 q.p = E2 := ⟨_, rfl⟩
  rw [hE2]
  clear hE2
  go_wp2_with fail
  refine Calls.mono (mawake_any _ ((unhide HT).k (unhide HK13))) ?_
  rintro e w14 ⟨rfl, k14⟩
  have HK14 := hide ((unhide HK13).trans k14 (by simp))
  clear k14
  go_wp2
  go_ret
  exact ⟨rfl, (unhide HK14).below (Nat.le_refl _) (by simp)⟩
end Go.Proofs.YthafpaenggcpdaaDoor
namespace Go.Proofs.YthafpaenggcpdaaDoor
open Go.ChangeShapes Go.WideShapes Go.ChangeAt Go.RowKit Go.Deep
set_option linter.unusedVariables false
set_option linter.unusedSimpArgs false

theorem own : ownKnob Tryd.prog.godebug = none := by kernel_rfl
theorem laidOut : laidOutB Tryd.prog = true := by kernel_rfl
theorem byte_of_wf {x : Int} (h : (Lit.int .u8 x).wf = true) : 0 ≤ x ∧ x < 256 := by
  simp [Lit.wf, IntKind.min, IntKind.max, IntKind.signed, IntKind.bits] at h
  exact ⟨by omega, by omega⟩
theorem int_of_wf {x : Int} (h : (Lit.int .i64 x).wf = true) : -9223372036854775808 ≤ x ∧ x ≤ 9223372036854775807 := by
  simp [Lit.wf, IntKind.min, IntKind.max, IntKind.signed, IntKind.bits] at h
  exact ⟨by omega, by omega⟩

theorem bulk_one {H : Type} (d : DataW H) : 1 ≤ Rows.uptoBulk d := by
  cases d with
  | lit l => cases l <;> simp [Rows.uptoBulk]
  | nil => simp [Rows.uptoBulk]
  | ptr d => simp [Rows.uptoBulk]
  | slice elems spare => simp [Rows.uptoBulk]
  | agg parts => simp [Rows.uptoBulk]
  | iface t d => simp [Rows.uptoBulk]
  | map entries => simp [Rows.uptoBulk]
  | held h => simp [Rows.uptoBulk]
theorem bulk_len {H : Type} (l : List (DataW H)) : l.length ≤ Rows.uptoBulkAll l := by
  induction l with
  | nil => simp [Rows.uptoBulkAll]
  | cons x r ih => have := bulk_one x; simp only [Rows.uptoBulkAll, List.length_cons]; omega
theorem Tryd.bytes5 : Tryd.prog.bytesOf 5 = 1 := by kernel_rfl

section
variable {H : Type} {enc : TypeId × Value → H} {W : World}

/-- Bytes that came in, as the walks want them, of whatever length. -/
theorem open_bytes {fuel : Nat} {cs : List Value} {x : DataW H × List MemPlace} (h : DataW.trod enc Tryd.prog W 0 (fun _ => true) true fuel 103 cs = some x) :
    ∃ v bs, cs = [v] ∧ (bs.length ≤ 140737488355328 → Rd W v bs) ∧ ((bs = [] ∧ x.1 = .nil) ∨ ∃ elems spare, x.1 = .slice elems spare ∧ elems.length = bs.length) := by
  rcases open_ints Tryd.underlying103 Tryd.underlying5 (by kernel_rfl) h with ⟨rfl, rfl⟩ | ⟨a, len, cap, zs, rfl, _, hl, hm, hz, rfl, hcell, hwz⟩
  · exact ⟨_, [], rfl, fun _ => Rd.nil W, .inl ⟨rfl, rfl⟩⟩
  · have h2 : (lits (H := H) .u8 (zs.take len)).length = len := by simp only [lits, List.length_map, List.length_take]; simp at hz; omega
    have hbl : ((zs.take len).map Int.toNat).length = len := by simp at hz; simp; omega
    refine ⟨_, (zs.take len).map Int.toNat, rfl, fun hB => ⟨_, _, _, rfl, hbl, hl, ⟨by unfold maxLen at hm; omega, by omega⟩, by simp, ?_, ?_⟩, .inr ⟨_, _, rfl, by rw [h2, hbl]⟩⟩
    · intro y hy
      obtain ⟨z, hz1, rfl⟩ := List.mem_map.1 hy
      have := byte_of_wf (hwz z (List.mem_of_mem_take hz1)); omega
    · intro hp
      simp at hz
      have hc0 := hcell 0 (by omega)
      obtain ⟨b, off, spot⟩ := a
      have hspot : spot = none := by simpa [Addr.add] using World.cell?_spot hc0
      subst hspot
      refine ⟨b, off, rfl, fun i hi => ?_⟩
      have hc := hcell i (by omega)
      have hzi : i < zs.length := by omega
      rw [Addr.add_mid] at hc
      rw [hc]
      have hw := byte_of_wf (hwz (zs[i]) (List.getElem_mem hzi))
      simp only [List.getD_eq_getElem?_getD, List.getElem?_eq_getElem hzi, Option.getD_some, List.getElem?_map, List.getElem?_take, hi, if_true, Option.map_some]
      simp [u8]; omega
/-- Their length, by the reach. -/
theorem reach_bytes {ts : List TypeId} {ds : List (DataW H)} (h : (DataW.weightsEach Tryd.prog ts ds).all (· ≤ reachBytes) = true) {j : Nat} (ht : ts[j]? = some 103) {d : DataW H} (hd : ds[j]? = some d) {bs : List Nat}
    (hx : (bs = [] ∧ d = .nil) ∨ ∃ elems spare, d = .slice elems spare ∧ elems.length = bs.length) : bs.length ≤ 140737488351232 := by
  rcases hx with ⟨rfl, _⟩ | ⟨elems, spare, rfl, he⟩
  · simp
  · have := sized_slice h ht hd Tryd.underlying103
    rw [Tryd.bytes5, Nat.mul_one] at this
    unfold reachBytes at this
    omega
/-- Their length, by the bulk. -/
theorem bulk_bytes {d : DataW H} {bs : List Nat} (hx : (bs = [] ∧ d = .nil) ∨ ∃ elems spare, d = .slice elems spare ∧ elems.length = bs.length) : bs.length + 1 ≤ Rows.uptoBulk d := by
  rcases hx with ⟨rfl, rfl⟩ | ⟨elems, spare, rfl, he⟩
  · simp [Rows.uptoBulk]
  · have := bulk_len elems
    simp only [Rows.uptoBulk]; omega
end
end Go.Proofs.YthafpaenggcpdaaDoor
namespace Go.Proofs.YthafpaenggcpdaaDoor
open Go Go.RowKit
set_option linter.unusedVariables false
set_option linter.unusedSimpArgs false
section
variable {H : Type} {enc : TypeId × Value → H} {W : World}

def natOf : Value → Nat
  | .int _ n => n.toNat
  | _ => 0
/-- A digest that came in. -/
theorem open_dig {fuel : Nat} {cs : List Value} {x : DataW H × List MemPlace} (h : DataW.trod enc Tryd.prog W 0 (fun _ => true) true fuel 23 cs = some x) :
    ∃ l : List Nat, cs = l.map u8 ∧ l.length = 32 ∧ ∀ y ∈ l, y < 256 := by
  obtain ⟨xs, m, _, rfl, hl, hn, hc⟩ := DataW.trod_array Tryd.underlying23 h
  rw [show Tryd.prog.cellsOf 23 = 32 from by kernel_rfl] at hl
  rw [show Tryd.prog.cellsOf 5 = 1 from by kernel_rfl] at hc
  have key : ∀ i (hi : i < cs.length), cs[i] = u8 (natOf cs[i]) ∧ natOf cs[i] < 256 := by
    intro i hi
    have h1 := hc i (by omega)
    rw [Nat.mul_one, List.getElem?_eq_getElem (by omega)] at h1
    obtain ⟨n, e, _, hw⟩ := DataW.trod_int Tryd.underlying5 h1
    rw [List.drop_eq_getElem_cons hi, List.take_succ_cons, List.take_zero] at e
    simp only [List.cons.injEq, and_true] at e
    have := byte_of_wf hw
    rw [e]
    refine ⟨?_, ?_⟩
    · simp [u8, natOf]; omega
    · simp [natOf]; omega
  refine ⟨cs.map natOf, ?_, by simp [hl], ?_⟩
  · rw [List.map_map]
    refine List.ext_getElem (by simp) fun i h1 h2 => ?_
    rw [List.getElem_map]
    exact (key i h1).1
  · intro y hy
    obtain ⟨v, hv, rfl⟩ := List.mem_map.1 hy
    obtain ⟨i, hi, rfl⟩ := List.getElem_of_mem hv
    exact (key i hi).2
set_option maxRecDepth 100000 in
theorem open_digv {b0 : Nat} {v : Value} {d : DataW H} {ps : List MemPlace} (hv : Value.okWide Tryd.prog W .any b0 23 v) (h : DataW.Trod enc Tryd.prog W 0 (fun _ => true) true 23 v d ps) :
    ∃ l : List Nat, v = .agg (brow l) ∧ l.length = 32 ∧ ∀ y ∈ l, y < 256 := by
  unfold Value.okWide at hv
  rw [Tryd.underlying23] at hv
  obtain ⟨cs, rfl, _, _⟩ := hv
  obtain ⟨fuel, hf⟩ := h
  obtain ⟨l, e, h1, h2⟩ := open_dig hf
  refine ⟨l, ?_, h1, h2⟩
  simp only [Value.cells] at e
  unfold brow
  rw [← e]
end
end Go.Proofs.YthafpaenggcpdaaDoor
namespace Go.Proofs.YthafpaenggcpdaaDoor
open Go.ChangeShapes Go.WideShapes Go.ChangeAt Go.RowKit Go.Deep
set_option linter.unusedVariables false
set_option linter.unusedSimpArgs false
section
variable {H : Type} {enc : TypeId × Value → H} {W : World}

theorem o_bulk_part {d : DataW H} {l : List (DataW H)} (h : d ∈ l) : Rows.uptoBulk d ≤ Rows.uptoBulkAll l := by
  induction l with
  | nil => cases h
  | cons x r ih =>
    simp only [Rows.uptoBulkAll]
    cases List.mem_cons.1 h with
    | inl e => subst e; omega
    | inr e => have := ih e; omega
theorem o_split (cs : List Value) (a n : Nat) : cs.drop a = (cs.drop a).take n ++ cs.drop (a + n) := by
  rw [← List.drop_drop, List.take_append_drop]

/-- Digests that came in. -/
theorem open_digs2 {fuel : Nat} {cs : List Value} {x : DataW H × List MemPlace} (h : DataW.trod enc Tryd.prog W 0 (fun _ => true) true fuel 25 cs = some x) (hB : Rows.uptoBulk x.1 ≤ 1048576) :
    ∃ v ds, cs = [v] ∧ RdD W v ds ∧ ds.length ≤ 1048576 := by
  rcases open_slice Tryd.underlying25 h with ⟨rfl, rfl⟩ | ⟨a, len, cap, m, n, D, Pl, rfl, _, hl, hm, hmm, rfl, hx⟩
  · exact ⟨_, [], rfl, ⟨none, 0, 0, rfl, rfl, Nat.le_refl _, by omega, fun d hd => by simp at hd, fun h => by omega⟩, by simp⟩
  · have hC : Tryd.prog.cellsOf 23 = 32 := by kernel_rfl
    rw [hC] at hx
    simp only [if_true] at hmm
    simp only [Rows.uptoBulk] at hB
    have hcap : cap ≤ 1048576 := by
      have h1 := bulk_len ((List.range len).map D)
      have h2 := bulk_len ((List.range (m - len)).map fun j => D (len + j))
      simp at h1 h2
      omega
    obtain ⟨f, hf⟩ := choose_lt (α := List Nat) (n := len) (p := fun i o => (∀ j v, (o.map u8)[j]? = some v → W.cell? ((a.add (i * 32)).add j) = some v) ∧ o.length = 32 ∧ ∀ y ∈ o, y < 256) (by
      intro i hi
      obtain ⟨cs', h1, h2⟩ := hx i (by omega)
      obtain ⟨l, rfl, hl1, hl2⟩ := open_dig h2
      obtain ⟨_, hlen, hc⟩ := World.cells?_some h1
      refine ⟨l, fun j v hv => ?_, hl1, hl2⟩
      have hj := (List.getElem?_eq_some_iff.1 hv).1
      have := hc j (by rw [List.length_map] at hj; omega)
      rw [this, ← hv, List.getElem?_eq_getElem hj])
    refine ⟨_, (List.range len).map f, rfl, ⟨some a, len, cap, rfl, by simp, hl, by omega, ?_, ?_⟩, by simp; omega⟩
    · intro d hd
      obtain ⟨i, hi, rfl⟩ := List.mem_map.1 hd
      exact (hf i (List.mem_range.1 hi)).2
    · intro hp
      obtain ⟨b, off, spot⟩ := a
      have h0 := hf 0 hp
      have hc0 := h0.1 0 (u8 ((f 0).getD 0 0)) (by rw [List.getElem?_map, List.getD_eq_getElem?_getD, List.getElem?_eq_getElem (by omega)]; rfl)
      have hspot : spot = none := by simpa [Addr.add] using World.cell?_spot hc0
      subst hspot
      refine ⟨b, off, rfl, fun i hi j v hv => ?_⟩
      have e9 : ((List.range len).map f).getD i [] = f i := by simp [List.getD_eq_getElem?_getD, hi]
      rw [e9] at hv
      have := (hf i hi).1 j v hv
      rw [Addr.add_mid, Addr.add_mid] at this
      exact this

/-- A question that came in. -/
theorem open_ask {fuel : Nat} {cs : List Value} {x : DataW H × List MemPlace} (h : DataW.trod enc Tryd.prog W 0 (fun _ => true) true fuel 27 cs = some x) (hB : Rows.uptoBulk x.1 ≤ 1048576) :
    ∃ (q : AskD) (pv : Value), cs = askC q pv ∧ OkA W q pv := by
  obtain ⟨xs, n, _, rfl, hl, hlen, hf⟩ := DataW.trod_struct Tryd.underlying27 h
  rw [show Tryd.prog.cellsOf 27 = 68 from by kernel_rfl] at hl
  match xs, hlen with
  | [y0, y1, y2, y3, y4, y5], _ =>
    have c3 : Tryd.prog.cellsOf 3 = 1 := by kernel_rfl
    have cd : Tryd.prog.cellsOf 23 = 32 := by kernel_rfl
    have cu : Tryd.prog.cellsOf 24 = 1 := by kernel_rfl
    have ck : Tryd.prog.cellsOf 25 = 1 := by kernel_rfl
    have f0 : DataW.trod enc Tryd.prog W 0 (fun _ => true) true n 3 ((cs.drop 0).take 1) = some y0 := by have this : DataW.trod enc Tryd.prog W 0 (fun _ => true) true n 3 ((cs.drop 0).take (Tryd.prog.cellsOf 3)) = some y0 := hf 0 _ rfl; rw [c3] at this; exact this
    have f1 : DataW.trod enc Tryd.prog W 0 (fun _ => true) true n 23 ((cs.drop 1).take 32) = some y1 := by have this : DataW.trod enc Tryd.prog W 0 (fun _ => true) true n 23 ((cs.drop 1).take (Tryd.prog.cellsOf 23)) = some y1 := hf 1 _ rfl; rw [cd] at this; exact this
    have f2 : DataW.trod enc Tryd.prog W 0 (fun _ => true) true n 24 ((cs.drop 33).take 1) = some y2 := by have this : DataW.trod enc Tryd.prog W 0 (fun _ => true) true n 24 ((cs.drop 33).take (Tryd.prog.cellsOf 24)) = some y2 := hf 2 _ rfl; rw [cu] at this; exact this
    have f3 : DataW.trod enc Tryd.prog W 0 (fun _ => true) true n 24 ((cs.drop 34).take 1) = some y3 := by have this : DataW.trod enc Tryd.prog W 0 (fun _ => true) true n 24 ((cs.drop 34).take (Tryd.prog.cellsOf 24)) = some y3 := hf 3 _ rfl; rw [cu] at this; exact this
    have f4 : DataW.trod enc Tryd.prog W 0 (fun _ => true) true n 25 ((cs.drop 35).take 1) = some y4 := by have this : DataW.trod enc Tryd.prog W 0 (fun _ => true) true n 25 ((cs.drop 35).take (Tryd.prog.cellsOf 25)) = some y4 := hf 4 _ rfl; rw [ck] at this; exact this
    have f5 : DataW.trod enc Tryd.prog W 0 (fun _ => true) true n 23 ((cs.drop 36).take 32) = some y5 := by have this : DataW.trod enc Tryd.prog W 0 (fun _ => true) true n 23 ((cs.drop 36).take (Tryd.prog.cellsOf 23)) = some y5 := hf 5 _ rfl; rw [cd] at this; exact this
    simp only [List.map_cons, List.map_nil, Rows.uptoBulk, Rows.uptoBulkAll] at hB
    obtain ⟨z, e0, _, w0⟩ := DataW.trod_int Tryd.underlying3 f0
    obtain ⟨l, e1, l1, l2⟩ := open_dig f1
    obtain ⟨i, e2, _, w2⟩ := DataW.trod_int Tryd.underlying24 f2
    obtain ⟨m, e3, _, w3⟩ := DataW.trod_int Tryd.underlying24 f3
    obtain ⟨dv, ds, e4, hds, hdl⟩ := open_digs2 f4 (by omega)
    obtain ⟨r, e5, r1, r2⟩ := open_dig f5
    have hi : 0 ≤ i ∧ i < 18446744073709551616 := by
      simp [Lit.wf, IntKind.min, IntKind.max, IntKind.signed, IntKind.bits] at w2
      omega
    have hm : 0 ≤ m ∧ m < 18446744073709551616 := by
      simp [Lit.wf, IntKind.min, IntKind.max, IntKind.signed, IntKind.bits] at w3
      omega
    refine ⟨⟨z, l, i.toNat, m.toNat, ds, r⟩, dv, ?_, ⟨int_of_wf w0, ⟨l1, l2⟩, by show i.toNat < _; omega, by show m.toNat < _; omega, hds, hdl, ⟨r1, r2⟩⟩⟩
    have hd : cs.drop 68 = [] := List.drop_eq_nil_of_le (by omega)
    have this := o_split cs 0 1
    rw [e0, o_split cs 1 32, e1, o_split cs 33 1, e2, o_split cs 34 1, e3, o_split cs 35 1, e4, o_split cs 36 32, e5, hd, List.drop_zero] at this
    rw [this]
    simp [askC, Int.toNat_of_nonneg hi.1, Int.toNat_of_nonneg hm.1]

set_option maxRecDepth 100000 in
theorem open_askv {b0 : Nat} {v : Value} {d : DataW H} {ps : List MemPlace} (hv : Value.okWide Tryd.prog W .any b0 27 v) (h : DataW.Trod enc Tryd.prog W 0 (fun _ => true) true 27 v d ps) (hB : Rows.uptoBulk d ≤ 1048576) :
    ∃ (q : AskD) (pv : Value), v = .agg (askC q pv).toArray ∧ OkA W q pv := by
  unfold Value.okWide at hv
  rw [Tryd.underlying27] at hv
  obtain ⟨cs, rfl, _, _⟩ := hv
  obtain ⟨fuel, hf⟩ := h
  obtain ⟨q, pv, e, h1⟩ := open_ask hf hB
  refine ⟨q, pv, ?_, h1⟩
  simp only [Value.cells] at e
  rw [← e]
end
end Go.Proofs.YthafpaenggcpdaaDoor
