import Derived.Test.YtbljofojeagdkaaDoorMRoot
namespace Go.Proofs.YtbljofojeagdkaaDoor
open Go.RowKit Go.BigFrame
set_option linter.unusedVariables false
set_option linter.unusedSimpArgs false

set_option maxRecDepth 100000 in
set_option maxHeartbeats 2000000 in
theorem rpath_any (k : Nat) (leaf : List Nat) (hk : 1 ≤ k ∧ k ≤ 32) (hl : Dg leaf) : ∀ (rp : List (List Nat)) (i n : Nat) (pv : Value) (w : World), i < n → n < 18446744073709551616 → RdD w pv rp.reverse →
    Calls Tryd.prog 28 #[.int .i64 k, .agg (brow leaf), .int .u64 i, .int .u64 n, pv] w fun e w' => ∃ d, e = .returned (.tuple #[.agg (brow d), .bool (clD k leaf rp i n).isSome]) ∧ Dg d ∧ (∀ x, clD k leaf rp i n = some x → d = x) ∧ Kept [] w w' := by
  intro rp
  induction rp with
  | nil =>
    intro i n pv w hi hn hp
    obtain ⟨ao, len, cap, rfl, h1, h2, h3, h4, h5⟩ := hp
    have hlen : len = 0 := by simpa using h1.symm
    subst hlen
    clear h1 h2 h3 h4 h5
    have hll := hl.1
    have HL := hide hl
    obtain ⟨F, hF⟩ : ∃ F, clD k leaf [] i n = F := ⟨_, rfl⟩
    have HFF := hide hF
    rw [hF]
    clear hF
    go_enter Tryd.func28, Tryd.ntmps28
    have HGL := hide (((Kept.refl [] (w.alloc (.cells (brow leaf) 23))).alloc (.cells (zb 32) 23)).heap (heap_alloc_new w (.cells (brow leaf) 23)) (by simp))
    have HGZ := hide (alloc_at w (.cells (brow leaf) 23) (.cells (zb 32) 23))
    have HK0 := hide (((Kept.refl [] w).alloc (.cells (brow leaf) 23)).alloc (.cells (zb 32) 23))
    by_cases h1 : n = 1
    · have h1' : ((n : Int) == 1) = true := by simp; omega
      have HC := hide (by rw [← unhide HFF]; unfold clD; rw [if_pos h1] : F = some leaf)
      go_wp2_with (first
        | (refine wpList_load_mid rfl 23 _ rfl w.heap.size 0 rfl (leaf.map u8) _ (range_row (unhide HGL)) Tryd.underlying23 rfl (by rw [List.length_map, hll]; exact Tryd.size_dig) ?_)
        | (rw [zb32]; refine wpList_store_row rfl 23 _ _ rfl (w.heap.size + 1) (brow leaf) rfl rfl _ (zb 32) (unhide HGZ) (by rw [brow_size, hll]; exact Tryd.size_dig) (by rw [zb_size, brow_size, hll]) (brow_one _) ?_))
      refine bodyPost_ret (v := .tuple #[.agg (brow leaf), .bool true]) ?_ rfl ⟨leaf, by rw [unhide HC]; rfl, unhide HL, (fun y hy => by rw [unhide HC] at hy; cases hy; rfl), (unhide HK0).setRow (Or.inr (by omega)) _⟩
      exact results_cell_tmp rfl _ _ (w.heap.size + 1) _ (brow leaf) (0, 0) _ rfl (setRow_heap _ _ _ _ _ _ (unhide HGZ)) Tryd.underlying23 rfl (by rw [brow_size, hll]; exact Tryd.size_dig) _ rfl
    · have h1' : ((n : Int) == 1) = false := by simp; omega
      have HC := hide (by rw [← unhide HFF]; unfold clD; rw [if_neg h1] : F = none)
      go_wp2_with (rw [zb32]; refine wpList_store_row rfl 23 _ _ rfl (w.heap.size + 1) (zb 32) rfl rfl _ (zb 32) (unhide HGZ) (by rw [zb_size]; exact Tryd.size_dig) rfl (brow_one _) ?_)
      refine bodyPost_ret (v := .tuple #[.agg (zb 32), .bool false]) ?_ rfl ⟨zD, by rw [unhide HC]; rfl, zD_dg, (fun y hy => by rw [unhide HC] at hy; cases hy), (unhide HK0).setRow (Or.inr (by omega)) _⟩
      exact results_cell_tmp rfl _ _ (w.heap.size + 1) _ (zb 32) (0, 0) _ rfl (setRow_heap _ _ _ _ _ _ (unhide HGZ)) Tryd.underlying23 rfl (by rw [zb_size]; exact Tryd.size_dig) _ rfl
  | cons x r ih =>
    intro i n pv w hi hn hp
    have HP := hide hp
    obtain ⟨ao, len, cap, rfl, h1, h2, h3, h4, h5⟩ := hp
    have hlen : len = r.length + 1 := by rw [← h1]; simp
    subst hlen
    clear h1 h4 h5
    have hll := hl.1
    have HL := hide hl
    have HX := hide ((unhide HP).dg (show x ∈ (x :: r).reverse by simp))
    have hxl := (unhide HX).1
    obtain ⟨F, hF⟩ : ∃ F, clD k leaf (x :: r) i n = F := ⟨_, rfl⟩
    have HFF := hide hF
    rw [hF]
    clear hF
    go_enter Tryd.func28, Tryd.ntmps28
    have HGL := hide (((Kept.refl [] (w.alloc (.cells (brow leaf) 23))).alloc (.cells (zb 32) 23)).heap (heap_alloc_new w (.cells (brow leaf) 23)) (by simp))
    have HGZ := hide (alloc_at w (.cells (brow leaf) 23) (.cells (zb 32) 23))
    have HK0 := hide (((Kept.refl [] w).alloc (.cells (brow leaf) 23)).alloc (.cells (zb 32) 23))
    by_cases h1 : n = 1
    · have h1' : ((n : Int) == 1) = true := by simp; omega
      have hne : (((r.length : Int) + 1) == 0) = false := by simp; omega
      have HC := hide (by rw [← unhide HFF]; unfold clD; rw [if_pos h1] : F = none)
      go_wp2_with (first
        | (refine wpList_load_mid rfl 23 _ rfl w.heap.size 0 rfl (leaf.map u8) _ (range_row (unhide HGL)) Tryd.underlying23 rfl (by rw [List.length_map, hll]; exact Tryd.size_dig) ?_)
        | (rw [zb32]; refine wpList_store_row rfl 23 _ _ rfl (w.heap.size + 1) (brow leaf) rfl rfl _ (zb 32) (unhide HGZ) (by rw [brow_size, hll]; exact Tryd.size_dig) (by rw [zb_size, brow_size, hll]) (brow_one _) ?_))
      refine bodyPost_ret (v := .tuple #[.agg (brow leaf), .bool false]) ?_ rfl ⟨leaf, by rw [unhide HC]; rfl, unhide HL, (fun y hy => by rw [unhide HC] at hy; cases hy), (unhide HK0).setRow (Or.inr (by omega)) _⟩
      exact results_cell_tmp rfl _ _ (w.heap.size + 1) _ (brow leaf) (0, 0) _ rfl (setRow_heap _ _ _ _ _ _ (unhide HGZ)) Tryd.underlying23 rfl (by rw [brow_size, hll]; exact Tryd.size_dig) _ rfl
    · have h1' : ((n : Int) == 1) = false := by simp; omega
      have hne : (((r.length : Int) + 1) == 0) = false := by simp; omega
      go_wp2_with fail
      refine Calls.mono (ended_any _ (x :: r).reverse r x _ ((unhide HP).old (unhide HK0)) (by simp)) ?_
      rintro e w1 ⟨u1, rfl, d1, k1⟩
      have HD1 := hide d1
      have HG1 := hide (k1.heap (unhide HGL) (by simp))
      have HZ1 := hide (k1.heap (unhide HGZ) (by simp))
      have HK1 := hide ((unhide HK0).trans k1 (by simp))
      obtain ⟨a1, n1, c1, rfl, _⟩ := id d1
      clear d1 k1 HGL HGZ
      have HXW := hide (setRow_heap (w1.alloc (.cells (zb 32) 23)) w1.heap.size (zb 32) (brow x) 23 (0, 0) (heap_alloc_new _ _))
      have k2 := ((Kept.refl [] w1).alloc (.cells (zb 32) 23)).setRow (g := w1.heap.size) (Or.inr (Nat.le_refl _)) (brow x)
      have HSX := hide (by rw [brow_size, hxl]; exact Tryd.size_dig : (Tryd.prog.info? 23).map (·.size) = some (brow x).size)
      have HSXL := hide (by rw [List.length_map, hxl]; exact Tryd.size_dig : (Tryd.prog.info? 23).map (·.size) = some (x.map u8).length)
      have HSL := hide (by rw [List.length_map, hll]; exact Tryd.size_dig : (Tryd.prog.info? 23).map (·.size) = some (leaf.map u8).length)
      have HD2 := hide ((unhide HD1).old k2)
      have HG2 := hide (k2.heap (unhide HG1) (by simp))
      have HZ2 := hide (k2.heap (unhide HZ1) (by simp))
      have HK2 := hide ((unhide HK1).trans k2 (by simp))
      clear k2 HD1 HG1 HZ1
      go_wp2_with (rw [zb32]; refine wpList_store_row rfl 23 _ _ rfl w1.heap.size (brow x) rfl rfl _ (zb 32) (heap_alloc_new _ _) (unhide HSX) (by rw [zb_size, brow_size, hxl]) (brow_one _) ?_)
      refine Calls.mono (refSplit_any n _ (by omega) hn) ?_
      rintro e w3 ⟨rfl, k3⟩
      have HX3 := hide (k3.heap (unhide HXW) (by simp))
      have HD3 := hide ((unhide HD2).old k3)
      have HG3 := hide (k3.heap (unhide HG2) (by simp))
      have HZ3 := hide (k3.heap (unhide HZ2) (by simp))
      have HK3 := hide ((unhide HK2).trans k3 (by simp))
      clear k3 HXW HD2 HG2 HZ2
      have hk1 := spl_pos n
      have hk2 := spl_lt (n := n) (by omega)
      have HK12 := hide (unhide HK1).size
      by_cases hik : i < spl n
      · have hik' : (i : Int) < (spl n : Nat) := by omega
        have HC := hide (by rw [← unhide HFF]; conv => lhs; unfold clD; rw [if_neg h1, if_pos hik] : F = (clD k leaf r i (spl n)).map (fun y => nodS k y x))
        have IH := fun (w' : World) (h' : RdD w' (.slice a1 n1 c1) r.reverse) => ih i (spl n) (.slice a1 n1 c1) w' hik (by omega) h'
        generalize clD k leaf r i (spl n) = O at HC IH
        go_wp2_with (refine wpList_load_mid rfl 23 _ rfl w.heap.size 0 rfl (leaf.map u8) _ (range_row (unhide HG3)) Tryd.underlying23 rfl (unhide HSL) ?_)
        refine Calls.mono (IH _ (unhide HD3)) ?_
        rintro e w4 ⟨d4, rfl, g4, q4, k4⟩
        have HOK := hide (And.intro g4 q4)
        have HX4 := hide (k4.heap (unhide HX3) (by simp))
        have HZ4 := hide (k4.heap (unhide HZ3) (by simp))
        have HK4 := hide ((unhide HK3).trans k4 (by simp))
        clear k4 HX3 HD3 HG3 HZ3 IH g4 q4
        have hol := (unhide HOK).1.1
        have HSO := hide (by rw [brow_size, hol]; exact Tryd.size_dig : (Tryd.prog.info? 23).map (·.size) = some (brow d4).size)
        have HSOL := hide (by rw [List.length_map, hol]; exact Tryd.size_dig : (Tryd.prog.info? 23).map (·.size) = some (d4.map u8).length)
        have HNW := hide (setRow_heap (w4.alloc (.cells (zb 32) 23)) w4.heap.size (zb 32) (brow d4) 23 (0, 0) (heap_alloc_new _ _))
        have k5 := ((Kept.refl [] w4).alloc (.cells (zb 32) 23)).setRow (g := w4.heap.size) (Or.inr (Nat.le_refl _)) (brow d4)
        have HX5 := hide (k5.heap (unhide HX4) (by simp))
        have HZ5 := hide (k5.heap (unhide HZ4) (by simp))
        have HK5 := hide ((unhide HK4).trans k5 (by simp))
        clear k5 HX4 HZ4
        go_wp2_with (first
          | (rw [zb32]; refine wpList_store_row rfl 23 _ _ rfl w4.heap.size (brow d4) rfl rfl _ (zb 32) (heap_alloc_new _ _) (unhide HSO) (by rw [zb_size, brow_size, hol]) (brow_one _) ?_)
          | (refine wpList_load_mid rfl 23 _ rfl w4.heap.size 0 rfl (d4.map u8) _ (range_row (unhide HNW)) Tryd.underlying23 rfl (unhide HSOL) ?_)
          | (refine wpList_load_mid rfl 23 _ rfl w1.heap.size 0 rfl (x.map u8) _ (range_row (unhide HX5)) Tryd.underlying23 rfl (unhide HSXL) ?_))
        refine Calls.mono (refNode_any k d4 x _ hk (unhide HOK).1 (unhide HX)) ?_
        rintro e w6 ⟨rfl, k6⟩
        have hfl := (nodS_dg k d4 x).1
        have HND := hide (nodS_dg k d4 x)
        have HEQ := hide (fun y (hy : F = some y) => by rw [unhide HC] at hy; obtain ⟨u, hu, rfl⟩ := Option.map_eq_some_iff.1 hy; rw [(unhide HOK).2 u hu] : ∀ y, F = some y → nodS k d4 x = y)
        have HIS := hide (by rw [unhide HC]; cases O <;> rfl : O.isSome = F.isSome)
        generalize nodS k d4 x = N at hfl HND HEQ
        have HZ6 := hide (k6.heap (unhide HZ5) (by simp))
        have HK6 := hide ((unhide HK5).trans k6 (by simp))
        clear k6 HX5 HZ5 HNW
        go_wp2_with (refine wpList_store_row rfl 23 _ _ rfl (w.heap.size + 1) (brow N) rfl rfl _ (zb 32) (unhide HZ6) (by rw [brow_size, hfl]; exact Tryd.size_dig) (by rw [zb_size, brow_size, hfl]) (brow_one _) ?_)
        refine bodyPost_ret (v := .tuple #[.agg (brow N), .bool O.isSome]) ?_ rfl ⟨N, by rw [unhide HIS], unhide HND, unhide HEQ, (unhide HK6).setRow (Or.inr (by omega)) _⟩
        exact results_cell_tmp rfl _ _ (w.heap.size + 1) _ (brow N) (0, 0) _ rfl (setRow_heap _ _ _ _ _ _ (unhide HZ6)) Tryd.underlying23 rfl (by rw [brow_size, hfl]; exact Tryd.size_dig) _ rfl
      · have hik' : ¬ (i : Int) < (spl n : Nat) := by omega
        have hs1 : ((i : Int) - (spl n : Nat)) = ((i - spl n : Nat) : Int) := by omega
        have hs2 : ((n : Int) - (spl n : Nat)) = ((n - spl n : Nat) : Int) := by omega
        have hb1 : ((spl n : Nat) : Int) ≤ i := by omega
        have hb2 : ((spl n : Nat) : Int) ≤ n := by omega
        have HC := hide (by rw [← unhide HFF]; conv => lhs; unfold clD; rw [if_neg h1, if_neg hik] : F = (clD k leaf r (i - spl n) (n - spl n)).map (fun y => nodS k x y))
        have IH := fun (w' : World) (h' : RdD w' (.slice a1 n1 c1) r.reverse) => ih (i - spl n) (n - spl n) (.slice a1 n1 c1) w' (by omega) (by omega) h'
        generalize clD k leaf r (i - spl n) (n - spl n) = O at HC IH
        go_wp2_with (refine wpList_load_mid rfl 23 _ rfl w.heap.size 0 rfl (leaf.map u8) _ (range_row (unhide HG3)) Tryd.underlying23 rfl (unhide HSL) ?_)
        refine Calls.mono (IH _ (unhide HD3)) ?_
        rintro e w4 ⟨d4, rfl, g4, q4, k4⟩
        have HOK := hide (And.intro g4 q4)
        have HX4 := hide (k4.heap (unhide HX3) (by simp))
        have HZ4 := hide (k4.heap (unhide HZ3) (by simp))
        have HK4 := hide ((unhide HK3).trans k4 (by simp))
        clear k4 HX3 HD3 HG3 HZ3 IH g4 q4
        have hol := (unhide HOK).1.1
        have HSO := hide (by rw [brow_size, hol]; exact Tryd.size_dig : (Tryd.prog.info? 23).map (·.size) = some (brow d4).size)
        have HSOL := hide (by rw [List.length_map, hol]; exact Tryd.size_dig : (Tryd.prog.info? 23).map (·.size) = some (d4.map u8).length)
        have HNW := hide (setRow_heap (w4.alloc (.cells (zb 32) 23)) w4.heap.size (zb 32) (brow d4) 23 (0, 0) (heap_alloc_new _ _))
        have k5 := ((Kept.refl [] w4).alloc (.cells (zb 32) 23)).setRow (g := w4.heap.size) (Or.inr (Nat.le_refl _)) (brow d4)
        have HX5 := hide (k5.heap (unhide HX4) (by simp))
        have HZ5 := hide (k5.heap (unhide HZ4) (by simp))
        have HK5 := hide ((unhide HK4).trans k5 (by simp))
        clear k5 HX4 HZ4
        go_wp2_with (first
          | (rw [zb32]; refine wpList_store_row rfl 23 _ _ rfl w4.heap.size (brow d4) rfl rfl _ (zb 32) (heap_alloc_new _ _) (unhide HSO) (by rw [zb_size, brow_size, hol]) (brow_one _) ?_)
          | (refine wpList_load_mid rfl 23 _ rfl w4.heap.size 0 rfl (d4.map u8) _ (range_row (unhide HNW)) Tryd.underlying23 rfl (unhide HSOL) ?_)
          | (refine wpList_load_mid rfl 23 _ rfl w1.heap.size 0 rfl (x.map u8) _ (range_row (unhide HX5)) Tryd.underlying23 rfl (unhide HSXL) ?_))
        refine Calls.mono (refNode_any k x d4 _ hk (unhide HX) (unhide HOK).1) ?_
        rintro e w6 ⟨rfl, k6⟩
        have hfl := (nodS_dg k x d4).1
        have HND := hide (nodS_dg k x d4)
        have HEQ := hide (fun y (hy : F = some y) => by rw [unhide HC] at hy; obtain ⟨u, hu, rfl⟩ := Option.map_eq_some_iff.1 hy; rw [(unhide HOK).2 u hu] : ∀ y, F = some y → nodS k x d4 = y)
        have HIS := hide (by rw [unhide HC]; cases O <;> rfl : O.isSome = F.isSome)
        generalize nodS k x d4 = N at hfl HND HEQ
        have HZ6 := hide (k6.heap (unhide HZ5) (by simp))
        have HK6 := hide ((unhide HK5).trans k6 (by simp))
        clear k6 HX5 HZ5 HNW
        go_wp2_with (refine wpList_store_row rfl 23 _ _ rfl (w.heap.size + 1) (brow N) rfl rfl _ (zb 32) (unhide HZ6) (by rw [brow_size, hfl]; exact Tryd.size_dig) (by rw [zb_size, brow_size, hfl]) (brow_one _) ?_)
        refine bodyPost_ret (v := .tuple #[.agg (brow N), .bool O.isSome]) ?_ rfl ⟨N, by rw [unhide HIS], unhide HND, unhide HEQ, (unhide HK6).setRow (Or.inr (by omega)) _⟩
        exact results_cell_tmp rfl _ _ (w.heap.size + 1) _ (brow N) (0, 0) _ rfl (setRow_heap _ _ _ _ _ _ (unhide HZ6)) Tryd.underlying23 rfl (by rw [brow_size, hfl]; exact Tryd.size_dig) _ rfl
end Go.Proofs.YtbljofojeagdkaaDoor
