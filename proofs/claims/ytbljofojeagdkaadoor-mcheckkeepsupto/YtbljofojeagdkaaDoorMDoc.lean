import Derived.Test.YtbljofojeagdkaaDoorMApp
namespace Go.Proofs.YtbljofojeagdkaaDoor
open Go.RowKit Go.BigFrame
set_option linter.unusedVariables false
set_option linter.unusedSimpArgs false

theorem own_lit1 (w : World) (l : List Nat) (hl : l.length = 32) : (w.alloc (.cells (brow l) 23)).ownsRow w.heap.size 23 32 (.slice (some ⟨w.heap.size, 0, none⟩) 1 1) ([l] : List (List Nat)).length (flatD [l]) := by
  have h := World.ownsRow_lit (base := w.heap.size) (e := 23) (size := 32) w (brow l) 1 (Nat.le_refl _) (by unfold maxLen; omega) (by rw [brow_size, hl])
  have e : (brow l).toList = flatD [l] := by simp [flatD, brow]
  rw [e] at h
  exact h

set_option maxRecDepth 100000 in
set_option maxHeartbeats 2000000 in
theorem docRootOf_any (z : Int) (leaf : List Nat) (i n : Nat) (pv : Value) (p : List (List Nat)) (w : World) (hz : -9223372036854775808 ≤ z ∧ z ≤ 9223372036854775807) (hl : Dg leaf) (hi : i < 18446744073709551616) (hn : n < 18446744073709551616) (hp : RdD w pv p) (hpl : p.length ≤ 1048576) :
    Calls Tryd.prog 9 #[.int .i64 z, .agg (brow leaf), .int .u64 i, .int .u64 n, pv] w fun e w' => e = .returned (.tuple #[.agg (brow (rootD z leaf i n p)), .int .i64 (rootE z leaf i n p)]) ∧ Kept [] w w' := by
  have HP := hide hp
  obtain ⟨ao, len, cap, rfl, h1, h2, h3, h4, h5⟩ := hp
  clear h4 h5
  subst h1
  have HL := hide hl
  have hll := hl.1
  have hDl : (rootD z leaf i n p).length = 32 := (rootD_dg hl).1
  obtain ⟨D, hD⟩ : ∃ D, rootD z leaf i n p = D := ⟨_, rfl⟩
  obtain ⟨E, hE⟩ : ∃ E, rootE z leaf i n p = E := ⟨_, rfl⟩
  have HD := hide hD
  have HE := hide hE
  rw [hD] at hDl
  rw [hD, hE]
  clear hD hE
  go_enter Tryd.func9, Tryd.ntmps9
  have HGL := hide (((Kept.refl [] (w.alloc (.cells (brow leaf) 23))).alloc (.cells (zb 32) 23)).heap (heap_alloc_new w (.cells (brow leaf) 23)) (by simp))
  have HGZ := hide (alloc_at w (.cells (brow leaf) 23) (.cells (zb 32) 23))
  have HK0 := hide (((Kept.refl [] w).alloc (.cells (brow leaf) 23)).alloc (.cells (zb 32) 23))
  obtain ⟨W0, hW0⟩ : ∃ W0, (w.alloc (.cells (brow leaf) 23)).alloc (.cells (zb 32) 23) = W0 := ⟨_, rfl⟩
  have hsz : w.heap.size + 1 + 1 = W0.heap.size := by rw [← hW0]; simp
  have HLIT := hide (by have := own_lit1 W0 leaf hll; rwa [← hsz, ← hW0] at this : (((w.alloc (.cells (brow leaf) 23)).alloc (.cells (zb 32) 23)).alloc (.cells (brow leaf) 23)).ownsRow (w.heap.size + 1 + 1) 23 32 (.slice (some ⟨w.heap.size + 1 + 1, 0, none⟩) 1 1) ([leaf] : List (List Nat)).length (flatD [leaf]))
  clear hW0 hsz W0
  have k0 := (Kept.refl [] ((w.alloc (.cells (brow leaf) 23)).alloc (.cells (zb 32) 23))).alloc (.cells (brow leaf) 23)
  have HK00 := hide k0
  have HP0 := hide ((unhide HP).old ((unhide HK0).trans k0 (by simp)))
  clear k0
  go_wp2_with (first
    | (refine wpList_load_mid rfl 23 _ rfl w.heap.size 0 rfl (leaf.map u8) _ (range_row (unhide HGL)) Tryd.underlying23 rfl (by rw [List.length_map, hll]; exact Tryd.size_dig) ?_)
    | (at_builtin; rw [zb32, one_dig leaf hll]; refine wpList_appendD rfl (.tmp 17) (.tmp 18) rfl rfl _ (w.heap.size + 1 + 1) (.slice (some ⟨w.heap.size + 1 + 1, 0, none⟩) 1 1) [leaf] p ao p.length cap (by exact unhide HLIT) (by exact unhide HP0) (by simp; omega) (by simp) rfl rfl ?_; intro ao1 cap1 w1 HO1 HG1; have HKG := hide ((unhide HK00).grown (unhide HG1) (by intro k hk; right; simp [Value.ownBlock] at hk; subst hk; simp)); clear HG1))
  have HR1 := hide (rdd_owns (unhide HO1) (fun d hd => by rcases List.mem_append.1 hd with h | h; simp at h; subst h; exact unhide HL; exact (unhide HP).dg h))
  have HK1' := hide ((unhide HK0).trans (unhide HKG) (by simp))
  have HL1' := hide ((unhide HKG).heap (unhide HGL) (by simp))
  have HZ1' := hide ((unhide HKG).heap (unhide HGZ) (by simp))
  clear HGL HGZ HO1 HKG HLIT HK00 HP0
  refine Calls.mono (refCheck_any z _ ([leaf] ++ p) _ hz (unhide HR1)) ?_
  rintro e w2 ⟨rfl, k2⟩
  have HK1 := hide ((unhide HK1').trans k2 (by simp))
  have HL1 := hide (k2.heap (unhide HL1') (by simp))
  have HZ1 := hide (k2.heap (unhide HZ1') (by simp))
  clear k2 HK1' HL1' HZ1' HR1
  obtain ⟨f, hf⟩ : ∃ f, formedE z ([leaf] ++ p) = f := ⟨_, rfl⟩
  have HF := hide (show formedE z (leaf :: p) = f from hf)
  rw [hf]
  clear hf
  by_cases hf0 : f = 0
  · subst hf0
    obtain ⟨hw, hff⟩ := formedE_zero (unhide HF)
    by_cases hr : n ≤ i
    · have hr' : (n : Int) ≤ i := by omega
      have HC := hide (by rw [← unhide HE, ← unhide HD]; exact rootE_r (unhide HF) hr : E = 4 ∧ D = zD)
      go_wp2_with (rw [zb32]; refine wpList_store_row rfl 23 _ _ rfl (w.heap.size + 1) (zb 32) rfl rfl _ (zb 32) (unhide HZ1) (by rw [zb_size]; exact Tryd.size_dig) rfl (brow_one _) ?_)
      rw [(unhide HC).1, (unhide HC).2]
      refine bodyPost_ret (v := .tuple #[.agg (zb 32), .int .i64 4]) ?_ rfl ⟨rfl, (unhide HK1).setRow (Or.inr (by omega)) _⟩
      exact results_cell_tmp rfl _ _ (w.heap.size + 1) _ (zb 32) (0, 0) _ rfl (setRow_heap _ _ _ _ _ _ (unhide HZ1)) Tryd.underlying23 rfl (by rw [zb_size]; exact Tryd.size_dig) _ rfl
    · have hr' : ¬ (n : Int) ≤ i := by omega
      have hwd : 1 ≤ z ∧ z ≤ 32 := by simpa [widthB] using hw
      obtain ⟨k, rfl⟩ : ∃ k : Nat, z = k := ⟨z.toNat, by omega⟩
      have HC := hide (by rw [← unhide HE, ← unhide HD]; exact rootE_c (unhide HF) hr : E = opE (clD k leaf p.reverse i n) ∧ D = opD (clD k leaf p.reverse i n))
      go_wp2_with (refine wpList_load_mid rfl 23 _ rfl w.heap.size 0 rfl (leaf.map u8) _ (range_row (unhide HL1)) Tryd.underlying23 rfl (by rw [List.length_map, hll]; exact Tryd.size_dig) ?_)
      refine Calls.mono (rpath_any k leaf ⟨by omega, by omega⟩ (unhide HL) p.reverse i n _ _ (by omega) hn (by rw [List.reverse_reverse]; exact (unhide HP).old (unhide HK1))) ?_
      rintro e w3 ⟨d3, rfl, g3, q3, k3⟩
      generalize clD k leaf p.reverse i n = O at HC q3
      have HQ := hide q3
      have HD3 := hide g3
      have hol := g3.1
      have HZ3 := hide (k3.heap (unhide HZ1) (by simp))
      have HK3 := hide ((unhide HK1).trans k3 (by simp))
      clear g3 q3 k3 HZ1 HL1
      have HSO := hide (by rw [brow_size, hol]; exact Tryd.size_dig : (Tryd.prog.info? 23).map (·.size) = some (brow d3).size)
      have HSOL := hide (by rw [List.length_map, hol]; exact Tryd.size_dig : (Tryd.prog.info? 23).map (·.size) = some (d3.map u8).length)
      have HNW := hide (setRow_heap (w3.alloc (.cells (zb 32) 23)) w3.heap.size (zb 32) (brow d3) 23 (0, 0) (heap_alloc_new _ _))
      have k5 := ((Kept.refl [] w3).alloc (.cells (zb 32) 23)).setRow (g := w3.heap.size) (Or.inr (Nat.le_refl _)) (brow d3)
      have HZ5 := hide (k5.heap (unhide HZ3) (by simp))
      have HK5 := hide ((unhide HK3).trans k5 (by simp))
      clear k5 HZ3
      cases O with
      | some d0 =>
        have HQ2 := hide (unhide HQ d0 rfl)
        have HE2 := hide (by rw [(unhide HC).1]; rfl : E = 0)
        have HD2 := hide (by rw [(unhide HC).2, unhide HQ2]; rfl : D = d3)
        go_wp2_with (first
          | (rw [zb32]; refine wpList_store_row rfl 23 _ _ rfl w3.heap.size (brow d3) rfl rfl _ (zb 32) (heap_alloc_new _ _) (unhide HSO) (by rw [zb_size, brow_size, hol]) (brow_one _) ?_)
          | (refine wpList_load_mid rfl 23 _ rfl w3.heap.size 0 rfl (d3.map u8) _ (range_row (unhide HNW)) Tryd.underlying23 rfl (unhide HSOL) ?_)
          | (refine wpList_store_row rfl 23 _ _ rfl (w.heap.size + 1) (brow d3) rfl rfl _ (zb 32) (unhide HZ5) (unhide HSO) (by rw [zb_size, brow_size, hol]) (brow_one _) ?_))
        rw [unhide HE2, unhide HD2]
        refine bodyPost_ret (v := .tuple #[.agg (brow d3), .int .i64 0]) ?_ rfl ⟨rfl, (unhide HK5).setRow (Or.inr (by omega)) _⟩
        exact results_cell_tmp rfl _ _ (w.heap.size + 1) _ (brow d3) (0, 0) _ rfl (setRow_heap _ _ _ _ _ _ (unhide HZ5)) Tryd.underlying23 rfl (unhide HSO) _ rfl
      | none =>
        have HE2 := hide (by rw [(unhide HC).1]; rfl : E = 10)
        have HD2 := hide (by rw [(unhide HC).2]; rfl : D = zD)
        go_wp2_with (first
          | (rw [zb32]; refine wpList_store_row rfl 23 _ _ rfl w3.heap.size (brow d3) rfl rfl _ (zb 32) (heap_alloc_new _ _) (unhide HSO) (by rw [zb_size, brow_size, hol]) (brow_one _) ?_)
          | (rw [zb32]; refine wpList_store_row rfl 23 _ _ rfl (w.heap.size + 1) (zb 32) rfl rfl _ (zb 32) (unhide HZ5) (by rw [zb_size]; exact Tryd.size_dig) rfl (brow_one _) ?_))
        rw [unhide HE2, unhide HD2]
        refine bodyPost_ret (v := .tuple #[.agg (zb 32), .int .i64 10]) ?_ rfl ⟨rfl, (unhide HK5).setRow (Or.inr (by omega)) _⟩
        exact results_cell_tmp rfl _ _ (w.heap.size + 1) _ (zb 32) (0, 0) _ rfl (setRow_heap _ _ _ _ _ _ (unhide HZ5)) Tryd.underlying23 rfl (by rw [zb_size]; exact Tryd.size_dig) _ rfl
  · have hb : ((f : Int) != 0) = true := by simp; omega
    have hb2 : ((f : Int) == 0) = false := by simp; omega
    have HC := hide (by rw [← unhide HE, ← unhide HD, ← unhide HF]; exact rootE_f (by rw [unhide HF]; exact hf0) : E = f ∧ D = zD)
    go_wp2_with (rw [zb32]; refine wpList_store_row rfl 23 _ _ rfl (w.heap.size + 1) (zb 32) rfl rfl _ (zb 32) (unhide HZ1) (by rw [zb_size]; exact Tryd.size_dig) rfl (brow_one _) ?_)
    rw [(unhide HC).1, (unhide HC).2]
    refine bodyPost_ret (v := .tuple #[.agg (zb 32), .int .i64 f]) ?_ rfl ⟨rfl, (unhide HK1).setRow (Or.inr (by omega)) _⟩
    exact results_cell_tmp rfl _ _ (w.heap.size + 1) _ (zb 32) (0, 0) _ rfl (setRow_heap _ _ _ _ _ _ (unhide HZ1)) Tryd.underlying23 rfl (by rw [zb_size]; exact Tryd.size_dig) _ rfl
end Go.Proofs.YtbljofojeagdkaaDoor
