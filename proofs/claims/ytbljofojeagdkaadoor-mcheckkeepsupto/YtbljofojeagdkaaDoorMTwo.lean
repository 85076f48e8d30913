import Derived.Test.YtbljofojeagdkaaDoorMRetN
namespace Go.Proofs.YtbljofojeagdkaaDoor
open Go.RowKit Go.BigFrame
set_option linter.unusedVariables false
set_option linter.unusedSimpArgs false

theorem two_heaps {W w9 : World} {b5 b6 : Nat} {z5 z6 : Array Value} {t t' : TypeId} (k9 : Kept [] W w9) (hz : W.heap[b5]? = some (.cells z5 t (0, 0))) (hy : W.heap[b6]? = some (.cells z6 t' (0, 0))) (hne : b5 ≠ b6) (c5 c6 : Array Value) :
    ((w9.setRow b5 c5).setRow b6 c6).heap[b5]? = some (.cells c5 t (0, 0)) ∧ ((w9.setRow b5 c5).setRow b6 c6).heap[b6]? = some (.cells c6 t' (0, 0)) :=
  ⟨(setRow_other (w9.setRow b5 c5) b6 b5 c6 hne).trans (setRow_heap w9 b5 z5 c5 t (0, 0) (k9.heap hz (by simp))), setRow_heap (w9.setRow b5 c5) b6 z6 c6 t' (0, 0) ((setRow_other w9 b5 b6 c5 (fun e => hne e.symm)).trans (k9.heap hy (by simp)))⟩

set_option maxRecDepth 100000 in
set_option maxHeartbeats 8000000 in
theorem two_any (k : Nat) (old : List Nat) (hk : 1 ≤ k ∧ k ≤ 32) (ho : Dg old) : ∀ (rp : List (List Nat)) (m n : Nat) (b : Bool) (pv : Value) (w : World), 1 ≤ m → m ≤ n → n < 18446744073709551616 → RdD w pv rp.reverse →
    Calls Tryd.prog 31 #[.int .i64 k, .int .u64 m, .int .u64 n, .agg (brow old), pv, .bool b] w fun e w' => ∃ d1 d2, e = .returned (.tuple #[.agg (brow d1), .agg (brow d2), .bool (twD k old rp m n b).isSome]) ∧ Dg d1 ∧ Dg d2 ∧ (∀ x, twD k old rp m n b = some x → (d1, d2) = x) ∧ Kept [] w w' := by
  intro rp
  induction rp with
  | nil =>
    intro m n b pv w hm1 hmn hn hp
    obtain ⟨ao, len, cap, rfl, h1, h2, h3, h4, h5⟩ := hp
    have hlen : len = 0 := by simpa using h1.symm
    subst hlen
    clear h1 h2 h3 h4 h5
    have hol := ho.1
    have HSL := hide (by rw [List.length_map, hol]; exact Tryd.size_dig : (Tryd.prog.info? 23).map (·.size) = some (old.map u8).length)
    obtain ⟨F, hF⟩ : ∃ F, twD k old [] m n b = F := ⟨_, rfl⟩
    have HFF := hide hF
    rw [hF]
    clear hF
    go_enter Tryd.func31, Tryd.ntmps31
    have HGL := hide ((((Kept.refl [] (w.alloc (.cells (brow old) 23))).alloc (.cells (zb 32) 23)).alloc (.cells (zb 32) 23)).heap (heap_alloc_new w (.cells (brow old) 23)) (by simp))
    have HGZ := hide (((Kept.refl [] ((w.alloc (.cells (brow old) 23)).alloc (.cells (zb 32) 23))).alloc (.cells (zb 32) 23)).heap (alloc_at w (.cells (brow old) 23) (.cells (zb 32) 23)) (by simp))
    have HGY := hide (alloc3_at w (.cells (brow old) 23) (.cells (zb 32) 23) (.cells (zb 32) 23))
    have HK0 := hide ((((Kept.refl [] w).alloc (.cells (brow old) 23)).alloc (.cells (zb 32) 23)).alloc (.cells (zb 32) 23))
    by_cases h1 : m = n
    · have h1' : ((m : Int) == n) = true := by simp; omega
      cases b with
      | true =>
        have HC := hide (by rw [← unhide HFF]; simp [twD, h1] : F = some (old, old))
        have HBV := hide (by rw [unhide HC]; rfl : F.isSome = true)
        go_wp2_with fail
        rw [zb32]
        obtain ⟨W0, hW0⟩ : ∃ W0, ((w.alloc (.cells (brow old) 23)).alloc (.cells (zb 32) 23)).alloc (.cells (zb 32) 23) = W0 := ⟨_, rfl⟩
        rw [hW0] at HGL HGZ HGY HK0 ⊢
        have HZN := HGZ
        have HYN := HGY
        have HRO := hide (range_row (unhide HGL))
        clear hW0
        refine wp_r8 (w.heap.size + 1) (w.heap.size + 1 + 1) (by kernel_rfl) (by kernel_rfl) (by kernel_rfl) (by kernel_rfl) (by kernel_rfl) (by kernel_rfl) (by kernel_rfl) (by kernel_rfl) (by kernel_rfl) (by kernel_rfl) (by kernel_rfl) (by kernel_rfl) (by kernel_rfl) (by kernel_rfl) (by kernel_rfl) (by kernel_rfl) (by kernel_rfl) rfl rfl
          (.agg (old.map u8).toArray) (.agg (old.map u8).toArray) (.slice ao 0 cap) (.int .i64 0) (.bool true) (.bool true) _ _ _ _ _ _ _ _ (by simp only [Act.put, List.setIfInBounds_toArray, List.set_cons_zero, List.set_cons_succ]; rfl) (by simp only [Act.put, List.setIfInBounds_toArray, List.set_cons_zero, List.set_cons_succ]; rfl) (by simp only [Act.put, List.setIfInBounds_toArray, List.set_cons_zero, List.set_cons_succ]; rfl) (by simp only [Act.put, List.setIfInBounds_toArray, List.set_cons_zero, List.set_cons_succ]; rfl) (by simp only [Act.put, List.setIfInBounds_toArray, List.set_cons_zero, List.set_cons_succ]; rfl) (by simp only [Act.put, List.setIfInBounds_toArray, List.set_cons_zero, List.set_cons_succ]; rfl) (by simp only [Act.put, List.setIfInBounds_toArray, List.set_cons_zero, List.set_cons_succ]; rfl) (by simp only [Act.put, List.setIfInBounds_toArray, List.set_cons_zero, List.set_cons_succ]; rfl)
          (by exact yieldsIf_load_mid (by rfl) _ _ rfl w.heap.size 0 rfl (old.map u8) _ (fun W' hW' => range_kept (unhide HRO) hW' (by simp; omega)) Tryd.underlying23 rfl (unhide HSL))
          (by exact yieldsIf_load_mid (by rfl) _ _ rfl w.heap.size 0 rfl (old.map u8) _ (fun W' hW' => range_kept (unhide HRO) hW' (by simp; omega)) Tryd.underlying23 rfl (unhide HSL))
          (by exact Or.inl ⟨by rfl, fun W' hW' => by go_simp⟩)
          (by exact Or.inl ⟨by rfl, fun W' hW' => by go_simp⟩)
          (by exact Or.inl ⟨by rfl, fun W' hW' => by go_simp⟩)
          23 23 _ _ _ _ rfl rfl (brow old) (brow old) (zb 32) (zb 32) 23 23 (by omega)
          (by rfl) (by rfl) (unhide HZN) (by rw [brow_size, hol]; exact Tryd.size_dig) (by rw [zb_size, brow_size, hol]) (brow_one _)
          (by rfl) (by rfl) (unhide HYN) (by rw [brow_size, hol]; exact Tryd.size_dig) (by rw [zb_size, brow_size, hol]) (brow_one _)
          (by exact Or.inl ⟨by rfl, fun W' hW' => by go_simp⟩) ?_
        intro w9 k9
        have HH := hide (two_heaps k9 (unhide HZN) (unhide HYN) (by omega) (brow old) (brow old))
        have HK9 := hide ((((unhide HK0).trans k9 (by simp)).setRow (g := w.heap.size + 1) (Or.inr (by omega)) (brow old)).setRow (g := w.heap.size + 1 + 1) (Or.inr (by omega)) (brow old))
        clear k9
        go_wp2_with fail
        refine bodyPost_ret (v := .tuple #[.agg (brow old), .agg (brow old), .bool true]) ?_ rfl ⟨old, old, by rw [unhide HBV], ho, ho, (fun y hy => by rw [unhide HC] at hy; cases hy; rfl), unhide HK9⟩
        exact results_cell_cell_tmp rfl _ _ (w.heap.size + 1) (w.heap.size + 1 + 1) _ _ (brow old) (brow old) (0, 0) (0, 0) _ _ rfl (unhide HH).1 rfl (unhide HH).2 Tryd.underlying23 rfl (by rw [brow_size, hol]; exact Tryd.size_dig) Tryd.underlying23 rfl (by rw [brow_size, hol]; exact Tryd.size_dig) _ rfl
      | false =>
        have HC := hide (by rw [← unhide HFF]; simp [twD] : F = none)
        have HBV := hide (by rw [unhide HC]; rfl : F.isSome = false)
        go_wp2_with fail
        rw [zb32]
        obtain ⟨W0, hW0⟩ : ∃ W0, ((w.alloc (.cells (brow old) 23)).alloc (.cells (zb 32) 23)).alloc (.cells (zb 32) 23) = W0 := ⟨_, rfl⟩
        rw [hW0] at HGL HGZ HGY HK0 ⊢
        have HZN := HGZ
        have HYN := HGY
        have HRO := hide (range_row (unhide HGL))
        clear hW0
        refine wp_r5 (w.heap.size + 1) (w.heap.size + 1 + 1) (by kernel_rfl) (by kernel_rfl) (by kernel_rfl) (by kernel_rfl) (by kernel_rfl) (by kernel_rfl) (by kernel_rfl) (by kernel_rfl) (by kernel_rfl) (by kernel_rfl) (by kernel_rfl) rfl rfl
          (.agg (old.map u8).toArray) (.agg (old.map u8).toArray) (.bool false) _ _ _ _ _ (by simp only [Act.put, List.setIfInBounds_toArray, List.set_cons_zero, List.set_cons_succ]; rfl) (by simp only [Act.put, List.setIfInBounds_toArray, List.set_cons_zero, List.set_cons_succ]; rfl) (by simp only [Act.put, List.setIfInBounds_toArray, List.set_cons_zero, List.set_cons_succ]; rfl) (by simp only [Act.put, List.setIfInBounds_toArray, List.set_cons_zero, List.set_cons_succ]; rfl) (by simp only [Act.put, List.setIfInBounds_toArray, List.set_cons_zero, List.set_cons_succ]; rfl)
          (by exact yieldsIf_load_mid (by rfl) _ _ rfl w.heap.size 0 rfl (old.map u8) _ (fun W' hW' => range_kept (unhide HRO) hW' (by simp; omega)) Tryd.underlying23 rfl (unhide HSL))
          (by exact yieldsIf_load_mid (by rfl) _ _ rfl w.heap.size 0 rfl (old.map u8) _ (fun W' hW' => range_kept (unhide HRO) hW' (by simp; omega)) Tryd.underlying23 rfl (unhide HSL))
          23 23 _ _ _ _ rfl rfl (brow old) (brow old) (zb 32) (zb 32) 23 23 (by omega)
          (by rfl) (by rfl) (unhide HZN) (by rw [brow_size, hol]; exact Tryd.size_dig) (by rw [zb_size, brow_size, hol]) (brow_one _)
          (by rfl) (by rfl) (unhide HYN) (by rw [brow_size, hol]; exact Tryd.size_dig) (by rw [zb_size, brow_size, hol]) (brow_one _)
          (by exact Or.inl ⟨by rfl, fun W' hW' => by go_simp⟩) ?_
        intro w9 k9
        have HH := hide (two_heaps k9 (unhide HZN) (unhide HYN) (by omega) (brow old) (brow old))
        have HK9 := hide ((((unhide HK0).trans k9 (by simp)).setRow (g := w.heap.size + 1) (Or.inr (by omega)) (brow old)).setRow (g := w.heap.size + 1 + 1) (Or.inr (by omega)) (brow old))
        clear k9
        go_wp2_with fail
        refine bodyPost_ret (v := .tuple #[.agg (brow old), .agg (brow old), .bool false]) ?_ rfl ⟨old, old, by rw [unhide HBV], ho, ho, (fun y hy => by rw [unhide HC] at hy; cases hy), unhide HK9⟩
        exact results_cell_cell_tmp rfl _ _ (w.heap.size + 1) (w.heap.size + 1 + 1) _ _ (brow old) (brow old) (0, 0) (0, 0) _ _ rfl (unhide HH).1 rfl (unhide HH).2 Tryd.underlying23 rfl (by rw [brow_size, hol]; exact Tryd.size_dig) Tryd.underlying23 rfl (by rw [brow_size, hol]; exact Tryd.size_dig) _ rfl
    · have h1' : ((m : Int) == n) = false := by simp; omega
      have HC := hide (by rw [← unhide HFF]; simp [twD, h1] : F = none)
      have HBV := hide (by rw [unhide HC]; rfl : F.isSome = false)
      go_wp2_with fail
      rw [zb32]
      obtain ⟨W0, hW0⟩ : ∃ W0, ((w.alloc (.cells (brow old) 23)).alloc (.cells (zb 32) 23)).alloc (.cells (zb 32) 23) = W0 := ⟨_, rfl⟩
      rw [hW0] at HGL HGZ HGY HK0 ⊢
      have HZN := HGZ
      have HYN := HGY
      have HRO := hide (range_row (unhide HGL))
      clear hW0
      refine wp_r5 (w.heap.size + 1) (w.heap.size + 1 + 1) (by kernel_rfl) (by kernel_rfl) (by kernel_rfl) (by kernel_rfl) (by kernel_rfl) (by kernel_rfl) (by kernel_rfl) (by kernel_rfl) (by kernel_rfl) (by kernel_rfl) (by kernel_rfl) rfl rfl
        (.agg (old.map u8).toArray) (.agg (old.map u8).toArray) (.bool false) _ _ _ _ _ (by simp only [Act.put, List.setIfInBounds_toArray, List.set_cons_zero, List.set_cons_succ]; rfl) (by simp only [Act.put, List.setIfInBounds_toArray, List.set_cons_zero, List.set_cons_succ]; rfl) (by simp only [Act.put, List.setIfInBounds_toArray, List.set_cons_zero, List.set_cons_succ]; rfl) (by simp only [Act.put, List.setIfInBounds_toArray, List.set_cons_zero, List.set_cons_succ]; rfl) (by simp only [Act.put, List.setIfInBounds_toArray, List.set_cons_zero, List.set_cons_succ]; rfl)
        (by exact yieldsIf_load_mid (by rfl) _ _ rfl w.heap.size 0 rfl (old.map u8) _ (fun W' hW' => range_kept (unhide HRO) hW' (by simp; omega)) Tryd.underlying23 rfl (unhide HSL))
        (by exact yieldsIf_load_mid (by rfl) _ _ rfl w.heap.size 0 rfl (old.map u8) _ (fun W' hW' => range_kept (unhide HRO) hW' (by simp; omega)) Tryd.underlying23 rfl (unhide HSL))
        23 23 _ _ _ _ rfl rfl (brow old) (brow old) (zb 32) (zb 32) 23 23 (by omega)
        (by rfl) (by rfl) (unhide HZN) (by rw [brow_size, hol]; exact Tryd.size_dig) (by rw [zb_size, brow_size, hol]) (brow_one _)
        (by rfl) (by rfl) (unhide HYN) (by rw [brow_size, hol]; exact Tryd.size_dig) (by rw [zb_size, brow_size, hol]) (brow_one _)
        (by exact Or.inl ⟨by rfl, fun W' hW' => by go_simp⟩) ?_
      intro w9 k9
      have HH := hide (two_heaps k9 (unhide HZN) (unhide HYN) (by omega) (brow old) (brow old))
      have HK9 := hide ((((unhide HK0).trans k9 (by simp)).setRow (g := w.heap.size + 1) (Or.inr (by omega)) (brow old)).setRow (g := w.heap.size + 1 + 1) (Or.inr (by omega)) (brow old))
      clear k9
      go_wp2_with fail
      refine bodyPost_ret (v := .tuple #[.agg (brow old), .agg (brow old), .bool false]) ?_ rfl ⟨old, old, by rw [unhide HBV], ho, ho, (fun y hy => by rw [unhide HC] at hy; cases hy), unhide HK9⟩
      exact results_cell_cell_tmp rfl _ _ (w.heap.size + 1) (w.heap.size + 1 + 1) _ _ (brow old) (brow old) (0, 0) (0, 0) _ _ rfl (unhide HH).1 rfl (unhide HH).2 Tryd.underlying23 rfl (by rw [brow_size, hol]; exact Tryd.size_dig) Tryd.underlying23 rfl (by rw [brow_size, hol]; exact Tryd.size_dig) _ rfl
  | cons x r ih =>
    intro m n b pv w hm1 hmn hn hp
    have HP := hide hp
    obtain ⟨ao, len, cap, rfl, h1, h2, h3, h4, h5⟩ := hp
    have hlen : len = r.length + 1 := by rw [← h1]; simp
    subst hlen
    have H5 := hide h5
    clear h1 h4 h5
    have hol := ho.1
    have HX := hide ((unhide HP).dg (show x ∈ (x :: r).reverse by simp))
    have hxl := (unhide HX).1
    have HSX1 := hide (by rw [List.length_map, hxl]; exact Tryd.size_dig : (Tryd.prog.info? 23).map (·.size) = some (x.map u8).length)
    have HSL := hide (by rw [List.length_map, hol]; exact Tryd.size_dig : (Tryd.prog.info? 23).map (·.size) = some (old.map u8).length)
    obtain ⟨F, hF⟩ : ∃ F, twD k old (x :: r) m n b = F := ⟨_, rfl⟩
    have HFF := hide hF
    rw [hF]
    clear hF
    go_enter Tryd.func31, Tryd.ntmps31
    have HGL := hide ((((Kept.refl [] (w.alloc (.cells (brow old) 23))).alloc (.cells (zb 32) 23)).alloc (.cells (zb 32) 23)).heap (heap_alloc_new w (.cells (brow old) 23)) (by simp))
    have HGZ := hide (((Kept.refl [] ((w.alloc (.cells (brow old) 23)).alloc (.cells (zb 32) 23))).alloc (.cells (zb 32) 23)).heap (alloc_at w (.cells (brow old) 23) (.cells (zb 32) 23)) (by simp))
    have HGY := hide (alloc3_at w (.cells (brow old) 23) (.cells (zb 32) 23) (.cells (zb 32) 23))
    have HK0 := hide ((((Kept.refl [] w).alloc (.cells (brow old) 23)).alloc (.cells (zb 32) 23)).alloc (.cells (zb 32) 23))
    by_cases h1 : m = n
    · have h1' : ((m : Int) == n) = true := by simp; omega
      cases b with
      | true =>
        have hne : (((r.length : Int) + 1) == 0) = false := by simp; omega
        have HC := hide (by rw [← unhide HFF]; simp [twD, h1] : F = none)
        have HBV := hide (by rw [unhide HC]; rfl : F.isSome = false)
        go_wp2_with fail
        rw [zb32]
        obtain ⟨W0, hW0⟩ : ∃ W0, ((w.alloc (.cells (brow old) 23)).alloc (.cells (zb 32) 23)).alloc (.cells (zb 32) 23) = W0 := ⟨_, rfl⟩
        rw [hW0] at HGL HGZ HGY HK0 ⊢
        have HZN := HGZ
        have HYN := HGY
        have HRO := hide (range_row (unhide HGL))
        clear hW0
        refine wp_r8 (w.heap.size + 1) (w.heap.size + 1 + 1) (by kernel_rfl) (by kernel_rfl) (by kernel_rfl) (by kernel_rfl) (by kernel_rfl) (by kernel_rfl) (by kernel_rfl) (by kernel_rfl) (by kernel_rfl) (by kernel_rfl) (by kernel_rfl) (by kernel_rfl) (by kernel_rfl) (by kernel_rfl) (by kernel_rfl) (by kernel_rfl) (by kernel_rfl) rfl rfl
          (.agg (old.map u8).toArray) (.agg (old.map u8).toArray) (.slice ao (r.length + 1) cap) (.int .i64 ((r.length : Int) + 1)) (.bool false) (.bool false) _ _ _ _ _ _ _ _ (by simp only [Act.put, List.setIfInBounds_toArray, List.set_cons_zero, List.set_cons_succ]; rfl) (by simp only [Act.put, List.setIfInBounds_toArray, List.set_cons_zero, List.set_cons_succ]; rfl) (by simp only [Act.put, List.setIfInBounds_toArray, List.set_cons_zero, List.set_cons_succ]; rfl) (by simp only [Act.put, List.setIfInBounds_toArray, List.set_cons_zero, List.set_cons_succ]; rfl) (by simp only [Act.put, List.setIfInBounds_toArray, List.set_cons_zero, List.set_cons_succ]; rfl) (by simp only [Act.put, List.setIfInBounds_toArray, List.set_cons_zero, List.set_cons_succ]; rfl) (by simp only [Act.put, List.setIfInBounds_toArray, List.set_cons_zero, List.set_cons_succ]; rfl) (by simp only [Act.put, List.setIfInBounds_toArray, List.set_cons_zero, List.set_cons_succ]; rfl)
          (by exact yieldsIf_load_mid (by rfl) _ _ rfl w.heap.size 0 rfl (old.map u8) _ (fun W' hW' => range_kept (unhide HRO) hW' (by simp; omega)) Tryd.underlying23 rfl (unhide HSL))
          (by exact yieldsIf_load_mid (by rfl) _ _ rfl w.heap.size 0 rfl (old.map u8) _ (fun W' hW' => range_kept (unhide HRO) hW' (by simp; omega)) Tryd.underlying23 rfl (unhide HSL))
          (by exact Or.inl ⟨by rfl, fun W' hW' => by go_simp⟩)
          (by exact Or.inl ⟨by rfl, fun W' hW' => by go_simp⟩)
          (by exact Or.inl ⟨by rfl, fun W' hW' => by go_simp⟩)
          23 23 _ _ _ _ rfl rfl (brow old) (brow old) (zb 32) (zb 32) 23 23 (by omega)
          (by rfl) (by rfl) (unhide HZN) (by rw [brow_size, hol]; exact Tryd.size_dig) (by rw [zb_size, brow_size, hol]) (brow_one _)
          (by rfl) (by rfl) (unhide HYN) (by rw [brow_size, hol]; exact Tryd.size_dig) (by rw [zb_size, brow_size, hol]) (brow_one _)
          (by exact Or.inl ⟨by rfl, fun W' hW' => by go_simp⟩) ?_
        intro w9 k9
        have HH := hide (two_heaps k9 (unhide HZN) (unhide HYN) (by omega) (brow old) (brow old))
        have HK9 := hide ((((unhide HK0).trans k9 (by simp)).setRow (g := w.heap.size + 1) (Or.inr (by omega)) (brow old)).setRow (g := w.heap.size + 1 + 1) (Or.inr (by omega)) (brow old))
        clear k9
        go_wp2_with fail
        refine bodyPost_ret (v := .tuple #[.agg (brow old), .agg (brow old), .bool false]) ?_ rfl ⟨old, old, by rw [unhide HBV], ho, ho, (fun y hy => by rw [unhide HC] at hy; cases hy), unhide HK9⟩
        exact results_cell_cell_tmp rfl _ _ (w.heap.size + 1) (w.heap.size + 1 + 1) _ _ (brow old) (brow old) (0, 0) (0, 0) _ _ rfl (unhide HH).1 rfl (unhide HH).2 Tryd.underlying23 rfl (by rw [brow_size, hol]; exact Tryd.size_dig) Tryd.underlying23 rfl (by rw [brow_size, hol]; exact Tryd.size_dig) _ rfl
      | false =>
        by_cases hr : r.length = 0
        · have hr1 : (((r.length : Int) + 1) != 1) = false := by simp; omega
          have hr0 : (0 : Int) < (r.length : Int) + 1 := by omega
          have hre : r = [] := List.eq_nil_of_length_eq_zero hr
          obtain ⟨b0, off, rfl, hcell⟩ := unhide H5 (by omega)
          have HRX0 := hide (by have := hcell 0 (by omega); rw [hre] at this; simpa using this : w.rangeAt b0 off (x.map u8))
          have hb0 : b0 < w.heap.size := by
            have h9 := unhide HRX0 0 (u8 (x.getD 0 0)) (by rw [List.getElem?_map, List.getD_eq_getElem?_getD, List.getElem?_eq_getElem (show 0 < x.length by omega)]; rfl)
            exact block_lt_of_cell h9
          clear hcell
          have HC := hide (by rw [← unhide HFF]; simp [twD, h1, hre] : F = some (x, x))
          have HBV := hide (by rw [unhide HC]; rfl : F.isSome = true)
          go_wp2_with fail
          rw [zb32]
          obtain ⟨W0, hW0⟩ : ∃ W0, ((w.alloc (.cells (brow old) 23)).alloc (.cells (zb 32) 23)).alloc (.cells (zb 32) 23) = W0 := ⟨_, rfl⟩
          rw [hW0] at HGL HGZ HGY HK0 ⊢
          have HZN := HGZ
          have HYN := HGY
          have HRO := hide (range_row (unhide HGL))
          clear hW0
          have HRX := hide (range_kept (unhide HRX0) (unhide HK0) (by simp))
          refine wp_r9 (w.heap.size + 1) (w.heap.size + 1 + 1) (by kernel_rfl) (by kernel_rfl) (by kernel_rfl) (by kernel_rfl) (by kernel_rfl) (by kernel_rfl) (by kernel_rfl) (by kernel_rfl) (by kernel_rfl) (by kernel_rfl) (by kernel_rfl) (by kernel_rfl) (by kernel_rfl) (by kernel_rfl) (by kernel_rfl) (by kernel_rfl) (by kernel_rfl) (by kernel_rfl) (by kernel_rfl) rfl rfl
            (.slice (some ⟨b0, off, none⟩) (r.length + 1) cap) (.pointer (some ⟨b0, off, none⟩)) (.agg (x.map u8).toArray) (.slice (some ⟨b0, off, none⟩) (r.length + 1) cap) (.pointer (some ⟨b0, off, none⟩)) (.agg (x.map u8).toArray) (.bool true) _ _ _ _ _ _ _ _ _ (by simp only [Act.put, List.setIfInBounds_toArray, List.set_cons_zero, List.set_cons_succ]; rfl) (by simp only [Act.put, List.setIfInBounds_toArray, List.set_cons_zero, List.set_cons_succ]; rfl) (by simp only [Act.put, List.setIfInBounds_toArray, List.set_cons_zero, List.set_cons_succ]; rfl) (by simp only [Act.put, List.setIfInBounds_toArray, List.set_cons_zero, List.set_cons_succ]; rfl) (by simp only [Act.put, List.setIfInBounds_toArray, List.set_cons_zero, List.set_cons_succ]; rfl) (by simp only [Act.put, List.setIfInBounds_toArray, List.set_cons_zero, List.set_cons_succ]; rfl) (by simp only [Act.put, List.setIfInBounds_toArray, List.set_cons_zero, List.set_cons_succ]; rfl) (by simp only [Act.put, List.setIfInBounds_toArray, List.set_cons_zero, List.set_cons_succ]; rfl) (by simp only [Act.put, List.setIfInBounds_toArray, List.set_cons_zero, List.set_cons_succ]; rfl)
            (by exact Or.inl ⟨by rfl, fun W' hW' => by go_simp⟩)
            (by exact Or.inl ⟨by rfl, fun W' hW' => by go_simp⟩)
            (by exact yieldsIf_load_mid (by rfl) _ _ rfl b0 off rfl (x.map u8) _ (fun W' hW' => range_kept (unhide HRX) hW' (by simp; omega)) Tryd.underlying23 rfl (unhide HSX1))
            (by exact Or.inl ⟨by rfl, fun W' hW' => by go_simp⟩)
            (by exact Or.inl ⟨by rfl, fun W' hW' => by go_simp⟩)
            (by exact yieldsIf_load_mid (by rfl) _ _ rfl b0 off rfl (x.map u8) _ (fun W' hW' => range_kept (unhide HRX) hW' (by simp; omega)) Tryd.underlying23 rfl (unhide HSX1))
            23 23 _ _ _ _ rfl rfl (brow x) (brow x) (zb 32) (zb 32) 23 23 (by omega)
            (by rfl) (by rfl) (unhide HZN) (by rw [brow_size, hxl]; exact Tryd.size_dig) (by rw [zb_size, brow_size, hxl]) (brow_one _)
            (by rfl) (by rfl) (unhide HYN) (by rw [brow_size, hxl]; exact Tryd.size_dig) (by rw [zb_size, brow_size, hxl]) (brow_one _)
            (by exact Or.inl ⟨by rfl, fun W' hW' => by go_simp⟩) ?_
          intro w9 k9
          have HH := hide (two_heaps k9 (unhide HZN) (unhide HYN) (by omega) (brow x) (brow x))
          have HK9 := hide ((((unhide HK0).trans k9 (by simp)).setRow (g := w.heap.size + 1) (Or.inr (by omega)) (brow x)).setRow (g := w.heap.size + 1 + 1) (Or.inr (by omega)) (brow x))
          clear k9
          go_wp2_with fail
          refine bodyPost_ret (v := .tuple #[.agg (brow x), .agg (brow x), .bool true]) ?_ rfl ⟨x, x, by rw [unhide HBV], (unhide HX), (unhide HX), (fun y hy => by rw [unhide HC] at hy; cases hy; rfl), unhide HK9⟩
          exact results_cell_cell_tmp rfl _ _ (w.heap.size + 1) (w.heap.size + 1 + 1) _ _ (brow x) (brow x) (0, 0) (0, 0) _ _ rfl (unhide HH).1 rfl (unhide HH).2 Tryd.underlying23 rfl (by rw [brow_size, hxl]; exact Tryd.size_dig) Tryd.underlying23 rfl (by rw [brow_size, hxl]; exact Tryd.size_dig) _ rfl
        · have hr1 : (((r.length : Int) + 1) != 1) = true := by simp; omega
          have hre : r ≠ [] := fun e => hr (by rw [e]; rfl)
          have HC := hide (by rw [← unhide HFF]; simp [twD, h1, hre] : F = none)
          have HBV := hide (by rw [unhide HC]; rfl : F.isSome = false)
          go_wp2_with fail
          rw [zb32]
          obtain ⟨W0, hW0⟩ : ∃ W0, ((w.alloc (.cells (brow old) 23)).alloc (.cells (zb 32) 23)).alloc (.cells (zb 32) 23) = W0 := ⟨_, rfl⟩
          rw [hW0] at HGL HGZ HGY HK0 ⊢
          have HZN := HGZ
          have HYN := HGY
          have HRO := hide (range_row (unhide HGL))
          clear hW0
          refine wp_r5 (w.heap.size + 1) (w.heap.size + 1 + 1) (by kernel_rfl) (by kernel_rfl) (by kernel_rfl) (by kernel_rfl) (by kernel_rfl) (by kernel_rfl) (by kernel_rfl) (by kernel_rfl) (by kernel_rfl) (by kernel_rfl) (by kernel_rfl) rfl rfl
            (.agg (old.map u8).toArray) (.agg (old.map u8).toArray) (.bool false) _ _ _ _ _ (by simp only [Act.put, List.setIfInBounds_toArray, List.set_cons_zero, List.set_cons_succ]; rfl) (by simp only [Act.put, List.setIfInBounds_toArray, List.set_cons_zero, List.set_cons_succ]; rfl) (by simp only [Act.put, List.setIfInBounds_toArray, List.set_cons_zero, List.set_cons_succ]; rfl) (by simp only [Act.put, List.setIfInBounds_toArray, List.set_cons_zero, List.set_cons_succ]; rfl) (by simp only [Act.put, List.setIfInBounds_toArray, List.set_cons_zero, List.set_cons_succ]; rfl)
            (by exact yieldsIf_load_mid (by rfl) _ _ rfl w.heap.size 0 rfl (old.map u8) _ (fun W' hW' => range_kept (unhide HRO) hW' (by simp; omega)) Tryd.underlying23 rfl (unhide HSL))
            (by exact yieldsIf_load_mid (by rfl) _ _ rfl w.heap.size 0 rfl (old.map u8) _ (fun W' hW' => range_kept (unhide HRO) hW' (by simp; omega)) Tryd.underlying23 rfl (unhide HSL))
            23 23 _ _ _ _ rfl rfl (brow old) (brow old) (zb 32) (zb 32) 23 23 (by omega)
            (by rfl) (by rfl) (unhide HZN) (by rw [brow_size, hol]; exact Tryd.size_dig) (by rw [zb_size, brow_size, hol]) (brow_one _)
            (by rfl) (by rfl) (unhide HYN) (by rw [brow_size, hol]; exact Tryd.size_dig) (by rw [zb_size, brow_size, hol]) (brow_one _)
            (by exact Or.inl ⟨by rfl, fun W' hW' => by go_simp⟩) ?_
          intro w9 k9
          have HH := hide (two_heaps k9 (unhide HZN) (unhide HYN) (by omega) (brow old) (brow old))
          have HK9 := hide ((((unhide HK0).trans k9 (by simp)).setRow (g := w.heap.size + 1) (Or.inr (by omega)) (brow old)).setRow (g := w.heap.size + 1 + 1) (Or.inr (by omega)) (brow old))
          clear k9
          go_wp2_with fail
          refine bodyPost_ret (v := .tuple #[.agg (brow old), .agg (brow old), .bool false]) ?_ rfl ⟨old, old, by rw [unhide HBV], ho, ho, (fun y hy => by rw [unhide HC] at hy; cases hy), unhide HK9⟩
          exact results_cell_cell_tmp rfl _ _ (w.heap.size + 1) (w.heap.size + 1 + 1) _ _ (brow old) (brow old) (0, 0) (0, 0) _ _ rfl (unhide HH).1 rfl (unhide HH).2 Tryd.underlying23 rfl (by rw [brow_size, hol]; exact Tryd.size_dig) Tryd.underlying23 rfl (by rw [brow_size, hol]; exact Tryd.size_dig) _ rfl
    · have h1' : ((m : Int) == n) = false := by simp; omega
      have hne : (((r.length : Int) + 1) == 0) = false := by simp; omega
      go_wp2_with fail
      refine Calls.mono (ended_any _ (x :: r).reverse r x _ ((unhide HP).old (unhide HK0)) (by simp)) ?_
      rintro e w1 ⟨u1, rfl, d1, k1⟩
      have HD1 := hide d1
      have HG1 := hide (k1.heap (unhide HGL) (by simp))
      have HZ1 := hide (k1.heap (unhide HGZ) (by simp))
      have HY1 := hide (k1.heap (unhide HGY) (by simp))
      have HK1 := hide ((unhide HK0).trans k1 (by simp))
      obtain ⟨a1, n1, c1, rfl, _⟩ := id d1
      clear d1 k1 HGL HGZ HGY
      have HNE0 := hide (by have h8 := lt_of_heap (unhide HY1); omega : w1.heap.size ≠ w.heap.size + 1 ∧ w1.heap.size ≠ w.heap.size + 1 + 1)
      have HXW := hide (setRow_heap (w1.alloc (.cells (zb 32) 23)) w1.heap.size (zb 32) (brow x) 23 (0, 0) (heap_alloc_new _ _))
      have k2 := ((Kept.refl [] w1).alloc (.cells (zb 32) 23)).setRow (g := w1.heap.size) (Or.inr (Nat.le_refl _)) (brow x)
      have HSX := hide (by rw [brow_size, hxl]; exact Tryd.size_dig : (Tryd.prog.info? 23).map (·.size) = some (brow x).size)
      have HSXL := hide (by rw [List.length_map, hxl]; exact Tryd.size_dig : (Tryd.prog.info? 23).map (·.size) = some (x.map u8).length)
      have HSL := hide (by rw [List.length_map, hol]; exact Tryd.size_dig : (Tryd.prog.info? 23).map (·.size) = some (old.map u8).length)
      have HD2 := hide ((unhide HD1).old k2)
      have HG2 := hide (k2.heap (unhide HG1) (by simp))
      have HZ2 := hide (k2.heap (unhide HZ1) (by simp))
      have HY2 := hide (k2.heap (unhide HY1) (by simp))
      have HK2 := hide ((unhide HK1).trans k2 (by simp))
      clear k2 HD1 HG1 HZ1 HY1
      go_wp2_with (rw [zb32]; refine wpList_store_row rfl 23 _ _ rfl w1.heap.size (brow x) rfl rfl _ (zb 32) (heap_alloc_new _ _) (unhide HSX) (by rw [zb_size, brow_size, hxl]) (brow_one _) ?_)
      refine Calls.mono (refSplit_any n _ (by omega) hn) ?_
      rintro e w3 ⟨rfl, k3⟩
      have HX3 := hide (k3.heap (unhide HXW) (by simp))
      have HD3 := hide ((unhide HD2).old k3)
      have HG3 := hide (k3.heap (unhide HG2) (by simp))
      have HZ3 := hide (k3.heap (unhide HZ2) (by simp))
      have HY3 := hide (k3.heap (unhide HY2) (by simp))
      have HK3 := hide ((unhide HK2).trans k3 (by simp))
      clear k3 HXW HD2 HG2 HZ2 HY2
      have hk1 := spl_pos n
      have hk2 := spl_lt (n := n) (by omega)
      have HK12 := hide (unhide HK1).size
      have HNE := hide (unhide HNE0)
      by_cases hik : m ≤ spl n
      · have hik' : (m : Int) ≤ (spl n : Nat) := by omega
        have HC := hide (by rw [← unhide HFF]; conv => lhs; unfold twD; rw [if_neg h1, if_pos hik] : F = (twD k old r m (spl n) b).map (fun y => (y.1, nodS k y.2 x)))
        have IH := fun (w' : World) (h' : RdD w' (.slice a1 n1 c1) r.reverse) => ih m (spl n) b (.slice a1 n1 c1) w' hm1 hik (by omega) h'
        generalize twD k old r m (spl n) b = O at HC IH
        go_wp2_with (refine wpList_load_mid rfl 23 _ rfl w.heap.size 0 rfl (old.map u8) _ (range_row (unhide HG3)) Tryd.underlying23 rfl (unhide HSL) ?_)
        refine Calls.mono (IH _ (unhide HD3)) ?_
        rintro e w4 ⟨d4, d5, rfl, g4, g5, q4, k4⟩
        have H4 := hide g4
        have H5' := hide g5
        have HQ := hide q4
        have hl4 := g4.1
        have hl5 := g5.1
        have HS4 := hide (by rw [List.length_map, hl4]; exact Tryd.size_dig : (Tryd.prog.info? 23).map (·.size) = some (d4.map u8).length)
        have HS5 := hide (by rw [List.length_map, hl5]; exact Tryd.size_dig : (Tryd.prog.info? 23).map (·.size) = some (d5.map u8).length)
        have HA0 := hide (((Kept.refl [] (w4.alloc (.cells (zb 32) 23))).alloc (.cells (zb 32) 23)).heap (heap_alloc_new w4 (.cells (zb 32) 23)) (by simp))
        have HB0 := hide ((setRow_other ((w4.alloc (.cells (zb 32) 23)).alloc (.cells (zb 32) 23)) w4.heap.size (w4.heap.size + 1) (brow d4) (by omega)).trans (alloc_at w4 (.cells (zb 32) 23) (.cells (zb 32) 23)))
        have kab := ((((Kept.refl [] w4).alloc (.cells (zb 32) 23)).alloc (.cells (zb 32) 23)).setRow (g := w4.heap.size) (Or.inr (Nat.le_refl _)) (brow d4)).setRow (g := w4.heap.size + 1) (Or.inr (by omega)) (brow d5)
        have HA1 := hide (range_row ((setRow_other (((w4.alloc (.cells (zb 32) 23)).alloc (.cells (zb 32) 23)).setRow w4.heap.size (brow d4)) (w4.heap.size + 1) w4.heap.size (brow d5) (by omega)).trans (setRow_heap _ _ _ (brow d4) _ _ (unhide HA0))))
        have HB1 := hide (range_row (setRow_heap (((w4.alloc (.cells (zb 32) 23)).alloc (.cells (zb 32) 23)).setRow w4.heap.size (brow d4)) _ _ (brow d5) _ _ (unhide HB0)))
        have kk := k4.trans kab (by simp)
        have HZN := hide (kk.heap (unhide HZ3) (by simp))
        have HYN := hide (kk.heap (unhide HY3) (by simp))
        have HXN := hide (range_row (kk.heap (unhide HX3) (by simp)))
        have HKN := hide ((unhide HK3).trans kk (by simp))
        have hsz1 := (unhide HK12)
        have hsz4 : w.heap.size + 1 + 1 < w4.heap.size := by have := lt_of_heap (k4.heap (unhide HY3) (by simp)); omega
        have hszx : w1.heap.size ≠ w.heap.size + 1 ∧ w1.heap.size ≠ w.heap.size + 1 + 1 := unhide HNE
        clear k4 kab kk g4 g5 q4 HZ3 HY3 HX3 HD3 HG3 IH
        go_wp2_with (first
          | (rw [zb32]; refine wpList_store_row rfl 23 _ _ rfl w4.heap.size (brow d4) rfl rfl _ (zb 32) (unhide HA0) (by rw [brow_size, hl4]; exact Tryd.size_dig) (by rw [zb_size, brow_size, hl4]) (brow_one _) ?_)
          | (refine wpList_store_row rfl 23 _ _ rfl (w4.heap.size + 1) (brow d5) rfl rfl _ (zb 32) (unhide HB0) (by rw [brow_size, hl5]; exact Tryd.size_dig) (by rw [zb_size, brow_size, hl5]) (brow_one _) ?_))
        obtain ⟨Y, hY⟩ : ∃ Y, (((w4.alloc (.cells (zb 32) 23)).alloc (.cells (zb 32) 23)).setRow w4.heap.size (brow d4)).setRow (w4.heap.size + 1) (brow d5) = Y := ⟨_, rfl⟩
        rw [hY] at HA1 HB1 HZN HYN HXN HKN ⊢
        clear hY HA0 HB0
        have HBV := hide (by rw [unhide HC]; cases O <;> rfl : F.isSome = O.isSome)
        refine wp_r9c (w.heap.size + 1) (w.heap.size + 1 + 1) (by kernel_rfl) (by kernel_rfl) (by kernel_rfl) (by kernel_rfl) (by kernel_rfl) (by kernel_rfl) (by kernel_rfl) (by kernel_rfl) (by kernel_rfl) (by kernel_rfl) (by kernel_rfl) (by kernel_rfl) (by kernel_rfl) (by kernel_rfl) (by kernel_rfl) (by kernel_rfl) (by kernel_rfl) (by kernel_rfl) rfl rfl rfl
          (.agg (d4.map u8).toArray) (.int .i64 (k : Int)) (.agg (d5.map u8).toArray) (.agg (x.map u8).toArray) (.bool O.isSome) (.agg (brow (nodS k d5 x))) (.bool O.isSome) _ _ _ _ _ _ _ _ _ (by simp only [Act.put, List.setIfInBounds_toArray, List.set_cons_zero, List.set_cons_succ]; rfl) (by simp only [Act.put, List.setIfInBounds_toArray, List.set_cons_zero, List.set_cons_succ]; rfl) (by simp only [Act.put, List.setIfInBounds_toArray, List.set_cons_zero, List.set_cons_succ]; rfl) (by simp only [Act.put, List.setIfInBounds_toArray, List.set_cons_zero, List.set_cons_succ]; rfl) (by simp only [Act.put, List.setIfInBounds_toArray, List.set_cons_zero, List.set_cons_succ]; rfl) (by simp only [Act.put, List.setIfInBounds_toArray, List.set_cons_zero, List.set_cons_succ]; rfl) (by simp only [Act.put, List.setIfInBounds_toArray, List.set_cons_zero, List.set_cons_succ]; rfl) (by simp only [Act.put, List.setIfInBounds_toArray, List.set_cons_zero, List.set_cons_succ]; rfl) (by simp only [Act.put, List.setIfInBounds_toArray, List.set_cons_zero, List.set_cons_succ]; rfl)
          (by exact yieldsIf_load_mid (by rfl) _ _ rfl w4.heap.size 0 rfl (d4.map u8) _ (fun W' hW' => range_kept (unhide HA1) hW' (by simp; omega)) Tryd.underlying23 rfl (unhide HS4))
          (by exact Or.inl ⟨by rfl, fun W' hW' => by go_simp⟩)
          (by exact yieldsIf_load_mid (by rfl) _ _ rfl (w4.heap.size + 1) 0 rfl (d5.map u8) _ (fun W' hW' => range_kept (unhide HB1) hW' (by simp; omega)) Tryd.underlying23 rfl (unhide HS5))
          (by exact yieldsIf_load_mid (by rfl) _ _ rfl w1.heap.size 0 rfl (x.map u8) _ (fun W' hW' => range_kept (unhide HXN) hW' (by simp; omega)) Tryd.underlying23 rfl (unhide HSXL))
          (by exact Or.inl ⟨by rfl, fun W' hW' => by go_simp⟩)
          (by intro w0 hk0 K hK; exact wp_node (.tmp 76) (.tmp 77) (.tmp 78) _ rfl k d5 x rfl rfl rfl hk (unhide H5') (unhide HX) hK)
          23 23 _ _ _ _ rfl rfl (brow d4) (brow (nodS k d5 x)) (zb 32) (zb 32) 23 23 (by omega)
          (by rfl) (by rfl) (unhide HZN) (by rw [brow_size, hl4]; exact Tryd.size_dig) (by rw [zb_size, brow_size, hl4]) (brow_one _)
          (by rfl) (by rfl) (unhide HYN) (by rw [brow_size, (nodS_dg k d5 x).1]; exact Tryd.size_dig) (by rw [zb_size, brow_size, (nodS_dg k d5 x).1]) (brow_one _)
          (by exact Or.inl ⟨by rfl, fun W' hW' => by go_simp⟩) ?_
        intro w9 k9
        have HH := hide (two_heaps k9 (unhide HZN) (unhide HYN) (by omega) (brow d4) (brow (nodS k d5 x)))
        have HK9 := hide ((((unhide HKN).trans k9 (by simp)).setRow (g := w.heap.size + 1) (Or.inr (by omega)) (brow d4)).setRow (g := w.heap.size + 1 + 1) (Or.inr (by omega)) (brow (nodS k d5 x)))
        clear k9
        go_wp2_with fail
        refine bodyPost_ret (v := .tuple #[.agg (brow d4), .agg (brow (nodS k d5 x)), .bool O.isSome]) ?_ rfl ⟨d4, (nodS k d5 x), by rw [unhide HBV], (unhide H4), (nodS_dg k d5 x), (fun y hy => by rw [unhide HC] at hy; obtain ⟨u, hu, rfl⟩ := Option.map_eq_some_iff.1 hy; have h9 := unhide HQ u hu; rw [← h9]), unhide HK9⟩
        exact results_cell_cell_tmp rfl _ _ (w.heap.size + 1) (w.heap.size + 1 + 1) _ _ (brow d4) (brow (nodS k d5 x)) (0, 0) (0, 0) _ _ rfl (unhide HH).1 rfl (unhide HH).2 Tryd.underlying23 rfl (by rw [brow_size, hl4]; exact Tryd.size_dig) Tryd.underlying23 rfl (by rw [brow_size, (nodS_dg k d5 x).1]; exact Tryd.size_dig) _ rfl
      · have hik' : ¬ (m : Int) ≤ (spl n : Nat) := by omega
        have hs1 : ((m : Int) - (spl n : Nat)) = ((m - spl n : Nat) : Int) := by omega
        have hs2 : ((n : Int) - (spl n : Nat)) = ((n - spl n : Nat) : Int) := by omega
        have hb1 : ((spl n : Nat) : Int) ≤ m := by omega
        have hb2 : ((spl n : Nat) : Int) ≤ n := by omega
        have HC := hide (by rw [← unhide HFF]; conv => lhs; unfold twD; rw [if_neg h1, if_neg hik] : F = (twD k old r (m - spl n) (n - spl n) false).map (fun y => (nodS k x y.1, nodS k x y.2)))
        have IH := fun (w' : World) (h' : RdD w' (.slice a1 n1 c1) r.reverse) => ih (m - spl n) (n - spl n) false (.slice a1 n1 c1) w' (by omega) (by omega) (by omega) h'
        generalize twD k old r (m - spl n) (n - spl n) false = O at HC IH
        go_wp2_with (refine wpList_load_mid rfl 23 _ rfl w.heap.size 0 rfl (old.map u8) _ (range_row (unhide HG3)) Tryd.underlying23 rfl (unhide HSL) ?_)
        refine Calls.mono (IH _ (unhide HD3)) ?_
        rintro e w4 ⟨d4, d5, rfl, g4, g5, q4, k4⟩
        have H4 := hide g4
        have H5' := hide g5
        have HQ := hide q4
        have hl4 := g4.1
        have hl5 := g5.1
        have HS4 := hide (by rw [List.length_map, hl4]; exact Tryd.size_dig : (Tryd.prog.info? 23).map (·.size) = some (d4.map u8).length)
        have HS5 := hide (by rw [List.length_map, hl5]; exact Tryd.size_dig : (Tryd.prog.info? 23).map (·.size) = some (d5.map u8).length)
        have HA0 := hide (((Kept.refl [] (w4.alloc (.cells (zb 32) 23))).alloc (.cells (zb 32) 23)).heap (heap_alloc_new w4 (.cells (zb 32) 23)) (by simp))
        have HB0 := hide ((setRow_other ((w4.alloc (.cells (zb 32) 23)).alloc (.cells (zb 32) 23)) w4.heap.size (w4.heap.size + 1) (brow d4) (by omega)).trans (alloc_at w4 (.cells (zb 32) 23) (.cells (zb 32) 23)))
        have kab := ((((Kept.refl [] w4).alloc (.cells (zb 32) 23)).alloc (.cells (zb 32) 23)).setRow (g := w4.heap.size) (Or.inr (Nat.le_refl _)) (brow d4)).setRow (g := w4.heap.size + 1) (Or.inr (by omega)) (brow d5)
        have HA1 := hide (range_row ((setRow_other (((w4.alloc (.cells (zb 32) 23)).alloc (.cells (zb 32) 23)).setRow w4.heap.size (brow d4)) (w4.heap.size + 1) w4.heap.size (brow d5) (by omega)).trans (setRow_heap _ _ _ (brow d4) _ _ (unhide HA0))))
        have HB1 := hide (range_row (setRow_heap (((w4.alloc (.cells (zb 32) 23)).alloc (.cells (zb 32) 23)).setRow w4.heap.size (brow d4)) _ _ (brow d5) _ _ (unhide HB0)))
        have kk := k4.trans kab (by simp)
        have HZN := hide (kk.heap (unhide HZ3) (by simp))
        have HYN := hide (kk.heap (unhide HY3) (by simp))
        have HXN := hide (range_row (kk.heap (unhide HX3) (by simp)))
        have HKN := hide ((unhide HK3).trans kk (by simp))
        have hsz1 := (unhide HK12)
        have hsz4 : w.heap.size + 1 + 1 < w4.heap.size := by have := lt_of_heap (k4.heap (unhide HY3) (by simp)); omega
        have hszx : w1.heap.size ≠ w.heap.size + 1 ∧ w1.heap.size ≠ w.heap.size + 1 + 1 := unhide HNE
        clear k4 kab kk g4 g5 q4 HZ3 HY3 HX3 HD3 HG3 IH
        go_wp2_with (first
          | (rw [zb32]; refine wpList_store_row rfl 23 _ _ rfl w4.heap.size (brow d4) rfl rfl _ (zb 32) (unhide HA0) (by rw [brow_size, hl4]; exact Tryd.size_dig) (by rw [zb_size, brow_size, hl4]) (brow_one _) ?_)
          | (refine wpList_store_row rfl 23 _ _ rfl (w4.heap.size + 1) (brow d5) rfl rfl _ (zb 32) (unhide HB0) (by rw [brow_size, hl5]; exact Tryd.size_dig) (by rw [zb_size, brow_size, hl5]) (brow_one _) ?_))
        obtain ⟨Y, hY⟩ : ∃ Y, (((w4.alloc (.cells (zb 32) 23)).alloc (.cells (zb 32) 23)).setRow w4.heap.size (brow d4)).setRow (w4.heap.size + 1) (brow d5) = Y := ⟨_, rfl⟩
        rw [hY] at HA1 HB1 HZN HYN HXN HKN ⊢
        clear hY HA0 HB0
        have HBV := hide (by rw [unhide HC]; cases O <;> rfl : F.isSome = O.isSome)
        refine wp_r12c (w.heap.size + 1) (w.heap.size + 1 + 1) (by kernel_rfl) (by kernel_rfl) (by kernel_rfl) (by kernel_rfl) (by kernel_rfl) (by kernel_rfl) (by kernel_rfl) (by kernel_rfl) (by kernel_rfl) (by kernel_rfl) (by kernel_rfl) (by kernel_rfl) (by kernel_rfl) (by kernel_rfl) (by kernel_rfl) (by kernel_rfl) (by kernel_rfl) (by kernel_rfl) (by kernel_rfl) (by kernel_rfl) (by kernel_rfl) (by kernel_rfl) (by kernel_rfl) rfl rfl rfl rfl
          (.int .i64 (k : Int)) (.agg (x.map u8).toArray) (.agg (d4.map u8).toArray) (.int .i64 (k : Int)) (.agg (x.map u8).toArray) (.agg (d5.map u8).toArray) (.bool O.isSome) (.agg (brow (nodS k x d4))) (.agg (brow (nodS k x d5))) (.bool O.isSome) _ _ _ _ _ _ _ _ _ _ _ _ (by simp only [Act.put, List.setIfInBounds_toArray, List.set_cons_zero, List.set_cons_succ]; rfl) (by simp only [Act.put, List.setIfInBounds_toArray, List.set_cons_zero, List.set_cons_succ]; rfl) (by simp only [Act.put, List.setIfInBounds_toArray, List.set_cons_zero, List.set_cons_succ]; rfl) (by simp only [Act.put, List.setIfInBounds_toArray, List.set_cons_zero, List.set_cons_succ]; rfl) (by simp only [Act.put, List.setIfInBounds_toArray, List.set_cons_zero, List.set_cons_succ]; rfl) (by simp only [Act.put, List.setIfInBounds_toArray, List.set_cons_zero, List.set_cons_succ]; rfl) (by simp only [Act.put, List.setIfInBounds_toArray, List.set_cons_zero, List.set_cons_succ]; rfl) (by simp only [Act.put, List.setIfInBounds_toArray, List.set_cons_zero, List.set_cons_succ]; rfl) (by simp only [Act.put, List.setIfInBounds_toArray, List.set_cons_zero, List.set_cons_succ]; rfl) (by simp only [Act.put, List.setIfInBounds_toArray, List.set_cons_zero, List.set_cons_succ]; rfl) (by simp only [Act.put, List.setIfInBounds_toArray, List.set_cons_zero, List.set_cons_succ]; rfl) (by simp only [Act.put, List.setIfInBounds_toArray, List.set_cons_zero, List.set_cons_succ]; rfl)
          (by exact Or.inl ⟨by rfl, fun W' hW' => by go_simp⟩)
          (by exact yieldsIf_load_mid (by rfl) _ _ rfl w1.heap.size 0 rfl (x.map u8) _ (fun W' hW' => range_kept (unhide HXN) hW' (by simp; omega)) Tryd.underlying23 rfl (unhide HSXL))
          (by exact yieldsIf_load_mid (by rfl) _ _ rfl w4.heap.size 0 rfl (d4.map u8) _ (fun W' hW' => range_kept (unhide HA1) hW' (by simp; omega)) Tryd.underlying23 rfl (unhide HS4))
          (by exact Or.inl ⟨by rfl, fun W' hW' => by go_simp⟩)
          (by exact yieldsIf_load_mid (by rfl) _ _ rfl w1.heap.size 0 rfl (x.map u8) _ (fun W' hW' => range_kept (unhide HXN) hW' (by simp; omega)) Tryd.underlying23 rfl (unhide HSXL))
          (by exact yieldsIf_load_mid (by rfl) _ _ rfl (w4.heap.size + 1) 0 rfl (d5.map u8) _ (fun W' hW' => range_kept (unhide HB1) hW' (by simp; omega)) Tryd.underlying23 rfl (unhide HS5))
          (by exact Or.inl ⟨by rfl, fun W' hW' => by go_simp⟩)
          (by intro w0 hk0 K hK; exact wp_node (.tmp 95) (.tmp 96) (.tmp 97) _ rfl k x d4 rfl rfl rfl hk (unhide HX) (unhide H4) hK)
          (by intro w0 hk0 K hK; exact wp_node (.tmp 99) (.tmp 100) (.tmp 101) _ rfl k x d5 rfl rfl rfl hk (unhide HX) (unhide H5') hK)
          23 23 _ _ _ _ rfl rfl (brow (nodS k x d4)) (brow (nodS k x d5)) (zb 32) (zb 32) 23 23 (by omega)
          (by rfl) (by rfl) (unhide HZN) (by rw [brow_size, (nodS_dg k x d4).1]; exact Tryd.size_dig) (by rw [zb_size, brow_size, (nodS_dg k x d4).1]) (brow_one _)
          (by rfl) (by rfl) (unhide HYN) (by rw [brow_size, (nodS_dg k x d5).1]; exact Tryd.size_dig) (by rw [zb_size, brow_size, (nodS_dg k x d5).1]) (brow_one _)
          (by exact Or.inl ⟨by rfl, fun W' hW' => by go_simp⟩) ?_
        intro w9 k9
        have HH := hide (two_heaps k9 (unhide HZN) (unhide HYN) (by omega) (brow (nodS k x d4)) (brow (nodS k x d5)))
        have HK9 := hide ((((unhide HKN).trans k9 (by simp)).setRow (g := w.heap.size + 1) (Or.inr (by omega)) (brow (nodS k x d4))).setRow (g := w.heap.size + 1 + 1) (Or.inr (by omega)) (brow (nodS k x d5)))
        clear k9
        go_wp2_with fail
        refine bodyPost_ret (v := .tuple #[.agg (brow (nodS k x d4)), .agg (brow (nodS k x d5)), .bool O.isSome]) ?_ rfl ⟨(nodS k x d4), (nodS k x d5), by rw [unhide HBV], (nodS_dg k x d4), (nodS_dg k x d5), (fun y hy => by rw [unhide HC] at hy; obtain ⟨u, hu, rfl⟩ := Option.map_eq_some_iff.1 hy; have h9 := unhide HQ u hu; rw [← h9]), unhide HK9⟩
        exact results_cell_cell_tmp rfl _ _ (w.heap.size + 1) (w.heap.size + 1 + 1) _ _ (brow (nodS k x d4)) (brow (nodS k x d5)) (0, 0) (0, 0) _ _ rfl (unhide HH).1 rfl (unhide HH).2 Tryd.underlying23 rfl (by rw [brow_size, (nodS_dg k x d4).1]; exact Tryd.size_dig) Tryd.underlying23 rfl (by rw [brow_size, (nodS_dg k x d5).1]; exact Tryd.size_dig) _ rfl
end Go.Proofs.YtbljofojeagdkaaDoor
