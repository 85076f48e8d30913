import Derived.Test.YtdeaciphaaefdaaDoorTopD
import Derived.Test.YtdeaciphaaefdaaDoorBase
import Derived.Test.YtdeaciphaaefdaaDoorCards
import Derived.Test.YtdeaciphaaefdaaDoorTie
import Derived.ProofKit
import Derived.OpenShut
import Derived.Deep.Slices
import Derived.SizedLaws
import Derived.Test.YtdeaciphaaefdaaDoorRowz
import Derived.Test.YtdeaciphaaefdaaDoorTopA
namespace Go.Proofs.YtdeaciphaaefdaaDoor
open Go.RowKit Go.BigFrame
set_option linter.unusedVariables false
set_option linter.unusedSimpArgs false

theorem two_heaps {W w9 : World} {b5 b6 : Nat} {z5 z6 : Array Value} {t t' : TypeId} (k9 : Kept [] W w9) (hz : W.heap[b5]? = some (.cells z5 t (0, 0))) (hy : W.heap[b6]? = some (.cells z6 t' (0, 0))) (hne : b5 ≠ b6) (c5 c6 : Array Value) :
    ((w9.setRow b5 c5).setRow b6 c6).heap[b5]? = some (.cells c5 t (0, 0)) ∧ ((w9.setRow b5 c5).setRow b6 c6).heap[b6]? = some (.cells c6 t' (0, 0)) :=
  ⟨(setRow_other (w9.setRow b5 c5) b6 b5 c6 hne).trans (setRow_heap w9 b5 z5 c5 t (0, 0) (k9.heap hz (by simp))), setRow_heap (w9.setRow b5 c5) b6 z6 c6 t' (0, 0) ((setRow_other w9 b5 b6 c5 (fun e => hne e.symm)).trans (k9.heap hy (by simp)))⟩

set_option maxRecDepth 100000 in
set_option maxHeartbeats 8000000 in
theorem two_any (k : Nat) (old : List Nat) (hk : 1 ≤ k ∧ k ≤ 32) (ho : Dg old) : ∀ (rp : List (List Nat)) (m n : Nat) (b : Bool) (pv : Value) (w : World), 1 ≤ m → m ≤ n → n < 18446744073709551616 → RdD w pv rp.reverse →
    Calls Tryd.prog 22 #[.int .i64 k, .int .u64 m, .int .u64 n, .agg (brow old), pv, .bool b] w fun e w' => ∃ d1 d2, e = .returned (.tuple #[.agg (brow d1), .agg (brow d2), .bool (twD k old rp m n b).isSome]) ∧ Dg d1 ∧ Dg d2 ∧ (∀ x, twD k old rp m n b = some x → (d1, d2) = x) ∧ Kept [] w w' := by
  intro rp
  induction rp with
  | nil =>
    intro m n b pv w hm1 hmn hn hp
    obtain ⟨ao, len, cap, rfl, h1, h2, h3, h4, h5⟩ := hp
    have hlen : len = 0 := by simpa using h1.symm
    subst hlen
    clear h1 h2 h3 h4 h5
    have hol := ho.1
    have HSL := hide (by rw [List.length_map, hol]; exact Tryd.size_dig : (Tryd.prog.info? 23).map (·.size) = some (old.map u8).length)
    obtain ⟨F, hF⟩ : ∃ F, twD k old [] m n b = F := ⟨_, rfl⟩
    have HFF := hide hF
    rw [hF]
    clear hF
    go_enter Tryd.func22, Tryd.ntmps22
    have HGL := hide ((((Kept.refl [] (w.alloc (.cells (brow old) 23))).alloc (.cells (zb 32) 23)).alloc (.cells (zb 32) 23)).heap (heap_alloc_new w (.cells (brow old) 23)) (by simp))
    have HGZ := hide (((Kept.refl [] ((w.alloc (.cells (brow old) 23)).alloc (.cells (zb 32) 23))).alloc (.cells (zb 32) 23)).heap (alloc_at w (.cells (brow old) 23) (.cells (zb 32) 23)) (by simp))
    have HGY := hide (alloc3_at w (.cells (brow old) 23) (.cells (zb 32) 23) (.cells (zb 32) 23))
    have HK0 := hide ((((Kept.refl [] w).alloc (.cells (brow old) 23)).alloc (.cells (zb 32) 23)).alloc (.cells (zb 32) 23))
    by_cases h1 : m = n
    · have h1' : ((m : Int) == n) = true := by simp; omega
      cases b with
      | true =>
        have HC := hide (by rw [← unhide HFF]; simp [twD, h1] : F = some (old, old))
        have HBV := hide (by rw [unhide HC]; rfl : F.isSome = true)
        go_wp2_with fail
        rw [zb32]
        obtain ⟨W0, hW0⟩ : ∃ W0, ((w.alloc (.cells (brow old) 23)).alloc (.cells (zb 32) 23)).alloc (.cells (zb 32) 23) = W0 := ⟨_, rfl⟩
        rw [hW0] at HGL HGZ HGY HK0 ⊢
        have HZN := HGZ
        have HYN := HGY
        have HRO := hide (range_row (unhide HGL))
        clear hW0
        refine wp_r8 (w.heap.size + 1) (w.heap.size + 1 + 1) (by kernel_rfl) (by kernel_rfl) (by kernel_rfl) (by kernel_rfl) (by kernel_rfl) (by kernel_rfl) (by kernel_rfl) (by kernel_rfl) (by kernel_rfl) (by kernel_rfl) (by kernel_rfl) (by kernel_rfl) (by kernel_rfl) (by kernel_rfl) (by kernel_rfl) (by kernel_rfl) (by kernel_rfl) rfl rfl
          (.agg (old.map u8).toArray) (.agg (old.map u8).toArray) (.slice ao 0 cap) (.int .i64 0) (.bool true) (.bool true) _ _ _ _ _ _ _ _ (by simp only [Act.put, List.setIfInBounds_toArray, List.set_cons_zero, List.set_cons_succ]; rfl) (by simp only [Act.put, List.setIfInBounds_toArray, List.set_cons_zero, List.set_cons_succ]; rfl) (by simp only [Act.put, List.setIfInBounds_toArray, List.set_cons_zero, List.set_cons_succ]; rfl) (by simp only [Act.put, List.setIfInBounds_toArray, List.set_cons_zero, List.set_cons_succ]; rfl) (by simp only [Act.put, List.setIfInBounds_toArray, List.set_cons_zero, List.set_cons_succ]; rfl) (by simp only [Act.put, List.setIfInBounds_toArray, List.set_cons_zero, List.set_cons_succ]; rfl) (by simp only [Act.put, List.setIfInBounds_toArray, List.set_cons_zero, List.set_cons_succ]; rfl) (by simp only [Act.put, List.setIfInBounds_toArray, List.set_cons_zero, List.set_cons_succ]; rfl)
          (by exact yieldsIf_load_mid (by rfl) _ _ rfl w.heap.size 0 rfl (old.map u8) _ (fun W' hW' => range_kept (unhide HRO) hW' (by simp; omega)) Tryd.underlying23 rfl (unhide HSL))
          (by exact yieldsIf_load_mid (by rfl) _ _ rfl w.heap.size 0 rfl (old.map u8) _ (fun W' hW' => range_kept (unhide HRO) hW' (by simp; omega)) Tryd.underlying23 rfl (unhide HSL))
          (by exact Or.inl ⟨by rfl, fun W' hW' => by go_simp⟩)
          (by exact Or.inl ⟨by rfl, fun W' hW' => by go_simp⟩)
          (by exact Or.inl ⟨by rfl, fun W' hW' => by go_simp⟩)
          23 23 _ _ _ _ rfl rfl (brow old) (brow old) (zb 32) (zb 32) 23 23 (by omega)
          (by rfl) (by rfl) (unhide HZN) (by rw [brow_size, hol]; exact Tryd.size_dig) (by rw [zb_size, brow_size, hol]) (brow_one _)
          (by rfl) (by rfl) (unhide HYN) (by rw [brow_size, hol]; exact Tryd.size_dig) (by rw [zb_size, brow_size, hol]) (brow_one _)
          (by exact Or.inl ⟨by rfl, fun W' hW' => by go_simp⟩) ?_
        intro w9 k9
        have HH := hide (two_heaps k9 (unhide HZN) (unhide HYN) (by omega) (brow old) (brow old))
        have HK9 := hide ((((unhide HK0).trans k9 (by simp)).setRow (g := w.heap.size + 1) (Or.inr (by omega)) (brow old)).setRow (g := w.heap.size + 1 + 1) (Or.inr (by omega)) (brow old))
        clear k9
        go_wp2_with fail
        refine bodyPost_ret (v := .tuple #[.agg (brow old), .agg (brow old), .bool true]) ?_ rfl ⟨old, old, by rw [unhide HBV], ho, ho, (fun y hy => by rw [unhide HC] at hy; cases hy; rfl), unhide HK9⟩
        exact results_cell_cell_tmp rfl _ _ (w.heap.size + 1) (w.heap.size + 1 + 1) _ _ (brow old) (brow old) (0, 0) (0, 0) _ _ rfl (unhide HH).1 rfl (unhide HH).2 Tryd.underlying23 rfl (by rw [brow_size, hol]; exact Tryd.size_dig) Tryd.underlying23 rfl (by rw [brow_size, hol]; exact Tryd.size_dig) _ rfl
      | false =>
        have HC := hide (by rw [← unhide HFF]; simp [twD] : F = none)
        have HBV := hide (by rw [unhide HC]; rfl : F.isSome = false)
        go_wp2_with fail
        rw [zb32]
        obtain ⟨W0, hW0⟩ : ∃ W0, ((w.alloc (.cells (brow old) 23)).alloc (.cells (zb 32) 23)).alloc (.cells (zb 32) 23) = W0 := ⟨_, rfl⟩
        rw [hW0] at HGL HGZ HGY HK0 ⊢
        have HZN := HGZ
        have HYN := HGY
        have HRO := hide (range_row (unhide HGL))
        clear hW0
        refine wp_r5 (w.heap.size + 1) (w.heap.size + 1 + 1) (by kernel_rfl) (by kernel_rfl) (by kernel_rfl) (by kernel_rfl) (by kernel_rfl) (by kernel_rfl) (by kernel_rfl) (by kernel_rfl) (by kernel_rfl) (by kernel_rfl) (by kernel_rfl) rfl rfl
          (.agg (old.map u8).toArray) (.agg (old.map u8).toArray) (.bool false) _ _ _ _ _ (by simp only [Act.put, List.setIfInBounds_toArray, List.set_cons_zero, List.set_cons_succ]; rfl) (by simp only [Act.put, List.setIfInBounds_toArray, List.set_cons_zero, List.set_cons_succ]; rfl) (by simp only [Act.put, List.setIfInBounds_toArray, List.set_cons_zero, List.set_cons_succ]; rfl) (by simp only [Act.put, List.setIfInBounds_toArray, List.set_cons_zero, List.set_cons_succ]; rfl) (by simp only [Act.put, List.setIfInBounds_toArray, List.set_cons_zero, List.set_cons_succ]; rfl)
          (by exact yieldsIf_load_mid (by rfl) _ _ rfl w.heap.size 0 rfl (old.map u8) _ (fun W' hW' => range_kept (unhide HRO) hW' (by simp; omega)) Tryd.underlying23 rfl (unhide HSL))
          (by exact yieldsIf_load_mid (by rfl) _ _ rfl w.heap.size 0 rfl (old.map u8) _ (fun W' hW' => range_kept (unhide HRO) hW' (by simp; omega)) Tryd.underlying23 rfl (unhide HSL))
          23 23 _ _ _ _ rfl rfl (brow old) (brow old) (zb 32) (zb 32) 23 23 (by omega)
          (by rfl) (by rfl) (unhide HZN) (by rw [brow_size, hol]; exact Tryd.size_dig) (by rw [zb_size, brow_size, hol]) (brow_one _)
          (by rfl) (by rfl) (unhide HYN) (by rw [brow_size, hol]; exact Tryd.size_dig) (by rw [zb_size, brow_size, hol]) (brow_one _)
          (by exact Or.inl ⟨by rfl, fun W' hW' => by go_simp⟩) ?_
        intro w9 k9
        have HH := hide (two_heaps k9 (unhide HZN) (unhide HYN) (by omega) (brow old) (brow old))
        have HK9 := hide ((((unhide HK0).trans k9 (by simp)).setRow (g := w.heap.size + 1) (Or.inr (by omega)) (brow old)).setRow (g := w.heap.size + 1 + 1) (Or.inr (by omega)) (brow old))
        clear k9
        go_wp2_with fail
        refine bodyPost_ret (v := .tuple #[.agg (brow old), .agg (brow old), .bool false]) ?_ rfl ⟨old, old, by rw [unhide HBV], ho, ho, (fun y hy => by rw [unhide HC] at hy; cases hy), unhide HK9⟩
        exact results_cell_cell_tmp rfl _ _ (w.heap.size + 1) (w.heap.size + 1 + 1) _ _ (brow old) (brow old) (0, 0) (0, 0) _ _ rfl (unhide HH).1 rfl (unhide HH).2 Tryd.underlying23 rfl (by rw [brow_size, hol]; exact Tryd.size_dig) Tryd.underlying23 rfl (by rw [brow_size, hol]; exact Tryd.size_dig) _ rfl
    · have h1' : ((m : Int) == n) = false := by simp; omega
      have HC := hide (by rw [← unhide HFF]; simp [twD, h1] : F = none)
      have HBV := hide (by rw [unhide HC]; rfl : F.isSome = false)
      go_wp2_with fail
      rw [zb32]
      obtain ⟨W0, hW0⟩ : ∃ W0, ((w.alloc (.cells (brow old) 23)).alloc (.cells (zb 32) 23)).alloc (.cells (zb 32) 23) = W0 := ⟨_, rfl⟩
      rw [hW0] at HGL HGZ HGY HK0 ⊢
      have HZN := HGZ
      have HYN := HGY
      have HRO := hide (range_row (unhide HGL))
      clear hW0
      refine wp_r5 (w.heap.size + 1) (w.heap.size + 1 + 1) (by kernel_rfl) (by kernel_rfl) (by kernel_rfl) (by kernel_rfl) (by kernel_rfl) (by kernel_rfl) (by kernel_rfl) (by kernel_rfl) (by kernel_rfl) (by kernel_rfl) (by kernel_rfl) rfl rfl
        (.agg (old.map u8).toArray) (.agg (old.map u8).toArray) (.bool false) _ _ _ _ _ (by simp only [Act.put, List.setIfInBounds_toArray, List.set_cons_zero, List.set_cons_succ]; rfl) (by simp only [Act.put, List.setIfInBounds_toArray, List.set_cons_zero, List.set_cons_succ]; rfl) (by simp only [Act.put, List.setIfInBounds_toArray, List.set_cons_zero, List.set_cons_succ]; rfl) (by simp only [Act.put, List.setIfInBounds_toArray, List.set_cons_zero, List.set_cons_succ]; rfl) (by simp only [Act.put, List.setIfInBounds_toArray, List.set_cons_zero, List.set_cons_succ]; rfl)
        (by exact yieldsIf_load_mid (by rfl) _ _ rfl w.heap.size 0 rfl (old.map u8) _ (fun W' hW' => range_kept (unhide HRO) hW' (by simp; omega)) Tryd.underlying23 rfl (unhide HSL))
        (by exact yieldsIf_load_mid (by rfl) _ _ rfl w.heap.size 0 rfl (old.map u8) _ (fun W' hW' => range_kept (unhide HRO) hW' (by simp; omega)) Tryd.underlying23 rfl (unhide HSL))
        23 23 _ _ _ _ rfl rfl (brow old) (brow old) (zb 32) (zb 32) 23 23 (by omega)
        (by rfl) (by rfl) (unhide HZN) (by rw [brow_size, hol]; exact Tryd.size_dig) (by rw [zb_size, brow_size, hol]) (brow_one _)
        (by rfl) (by rfl) (unhide HYN) (by rw [brow_size, hol]; exact Tryd.size_dig) (by rw [zb_size, brow_size, hol]) (brow_one _)
        (by exact Or.inl ⟨by rfl, fun W' hW' => by go_simp⟩) ?_
      intro w9 k9
      have HH := hide (two_heaps k9 (unhide HZN) (unhide HYN) (by omega) (brow old) (brow old))
      have HK9 := hide ((((unhide HK0).trans k9 (by simp)).setRow (g := w.heap.size + 1) (Or.inr (by omega)) (brow old)).setRow (g := w.heap.size + 1 + 1) (Or.inr (by omega)) (brow old))
      clear k9
      go_wp2_with fail
      refine bodyPost_ret (v := .tuple #[.agg (brow old), .agg (brow old), .bool false]) ?_ rfl ⟨old, old, by rw [unhide HBV], ho, ho, (fun y hy => by rw [unhide HC] at hy; cases hy), unhide HK9⟩
      exact results_cell_cell_tmp rfl _ _ (w.heap.size + 1) (w.heap.size + 1 + 1) _ _ (brow old) (brow old) (0, 0) (0, 0) _ _ rfl (unhide HH).1 rfl (unhide HH).2 Tryd.underlying23 rfl (by rw [brow_size, hol]; exact Tryd.size_dig) Tryd.underlying23 rfl (by rw [brow_size, hol]; exact Tryd.size_dig) _ rfl
  | cons x r ih =>
    intro m n b pv w hm1 hmn hn hp
    have HP := hide hp
    obtain ⟨ao, len, cap, rfl, h1, h2, h3, h4, h5⟩ := hp
    have hlen : len = r.length + 1 := by rw [← h1]; simp
    subst hlen
    have H5 := hide h5
    clear h1 h4 h5
    have hol := ho.1
    have HX := hide ((unhide HP).dg (show x ∈ (x :: r).reverse by simp))
    have hxl := (unhide HX).1
    have HSX1 := hide (by rw [List.length_map, hxl]; exact Tryd.size_dig : (Tryd.prog.info? 23).map (·.size) = some (x.map u8).length)
    have HSL := hide (by rw [List.length_map, hol]; exact Tryd.size_dig : (Tryd.prog.info? 23).map (·.size) = some (old.map u8).length)
    obtain ⟨F, hF⟩ : ∃ F, twD k old (x :: r) m n b = F := ⟨_, rfl⟩
    have HFF := hide hF
    rw [hF]
    clear hF
    go_enter Tryd.func22, Tryd.ntmps22
    have HGL := hide ((((Kept.refl [] (w.alloc (.cells (brow old) 23))).alloc (.cells (zb 32) 23)).alloc (.cells (zb 32) 23)).heap (heap_alloc_new w (.cells (brow old) 23)) (by simp))
    have HGZ := hide (((Kept.refl [] ((w.alloc (.cells (brow old) 23)).alloc (.cells (zb 32) 23))).alloc (.cells (zb 32) 23)).heap (alloc_at w (.cells (brow old) 23) (.cells (zb 32) 23)) (by simp))
    have HGY := hide (alloc3_at w (.cells (brow old) 23) (.cells (zb 32) 23) (.cells (zb 32) 23))
    have HK0 := hide ((((Kept.refl [] w).alloc (.cells (brow old) 23)).alloc (.cells (zb 32) 23)).alloc (.cells (zb 32) 23))
    by_cases h1 : m = n
    · have h1' : ((m : Int) == n) = true := by simp; omega
      cases b with
      | true =>
        have hne : (((r.length : Int) + 1) == 0) = false := by simp; omega
        have HC := hide (by rw [← unhide HFF]; simp [twD, h1] : F = none)
        have HBV := hide (by rw [unhide HC]; rfl : F.isSome = false)
        go_wp2_with fail
        rw [zb32]
        obtain ⟨W0, hW0⟩ : ∃ W0, ((w.alloc (.cells (brow old) 23)).alloc (.cells (zb 32) 23)).alloc (.cells (zb 32) 23) = W0 := ⟨_, rfl⟩
        rw [hW0] at HGL HGZ HGY HK0 ⊢
        have HZN := HGZ
        have HYN := HGY
        have HRO := hide (range_row (unhide HGL))
        clear hW0
        refine wp_r8 (w.heap.size + 1) (w.heap.size + 1 + 1) (by kernel_rfl) (by kernel_rfl) (by kernel_rfl) (by kernel_rfl) (by kernel_rfl) (by kernel_rfl) (by kernel_rfl) (by kernel_rfl) (by kernel_rfl) (by kernel_rfl) (by kernel_rfl) (by kernel_rfl) (by kernel_rfl) (by kernel_rfl) (by kernel_rfl) (by kernel_rfl) (by kernel_rfl) rfl rfl
          (.agg (old.map u8).toArray) (.agg (old.map u8).toArray) (.slice ao (r.length + 1) cap) (.int .i64 ((r.length : Int) + 1)) (.bool false) (.bool false) _ _ _ _ _ _ _ _ (by simp only [Act.put, List.setIfInBounds_toArray, List.set_cons_zero, List.set_cons_succ]; rfl) (by simp only [Act.put, List.setIfInBounds_toArray, List.set_cons_zero, List.set_cons_succ]; rfl) (by simp only [Act.put, List.setIfInBounds_toArray, List.set_cons_zero, List.set_cons_succ]; rfl) (by simp only [Act.put, List.setIfInBounds_toArray, List.set_cons_zero, List.set_cons_succ]; rfl) (by simp only [Act.put, List.setIfInBounds_toArray, List.set_cons_zero, List.set_cons_succ]; rfl) (by simp only [Act.put, List.setIfInBounds_toArray, List.set_cons_zero, List.set_cons_succ]; rfl) (by simp only [Act.put, List.setIfInBounds_toArray, List.set_cons_zero, List.set_cons_succ]; rfl) (by simp only [Act.put, List.setIfInBounds_toArray, List.set_cons_zero, List.set_cons_succ]; rfl)
          (by exact yieldsIf_load_mid (by rfl) _ _ rfl w.heap.size 0 rfl (old.map u8) _ (fun W' hW' => range_kept (unhide HRO) hW' (by simp; omega)) Tryd.underlying23 rfl (unhide HSL))
          (by exact yieldsIf_load_mid (by rfl) _ _ rfl w.heap.size 0 rfl (old.map u8) _ (fun W' hW' => range_kept (unhide HRO) hW' (by simp; omega)) Tryd.underlying23 rfl (unhide HSL))
          (by exact Or.inl ⟨by rfl, fun W' hW' => by go_simp⟩)
          (by exact Or.inl ⟨by rfl, fun W' hW' => by go_simp⟩)
          (by exact Or.inl ⟨by rfl, fun W' hW' => by go_simp⟩)
          23 23 _ _ _ _ rfl rfl (brow old) (brow old) (zb 32) (zb 32) 23 23 (by omega)
          (by rfl) (by rfl) (unhide HZN) (by rw [brow_size, hol]; exact Tryd.size_dig) (by rw [zb_size, brow_size, hol]) (brow_one _)
          (by rfl) (by rfl) (unhide HYN) (by rw [brow_size, hol]; exact Tryd.size_dig) (by rw [zb_size, brow_size, hol]) (brow_one _)
          (by exact Or.inl ⟨by rfl, fun W' hW' => by go_simp⟩) ?_
        intro w9 k9
        have HH := hide (two_heaps k9 (unhide HZN) (unhide HYN) (by omega) (brow old) (brow old))
        have HK9 := hide ((((unhide HK0).trans k9 (by simp)).setRow (g := w.heap.size + 1) (Or.inr (by omega)) (brow old)).setRow (g := w.heap.size + 1 + 1) (Or.inr (by omega)) (brow old))
        clear k9
        go_wp2_with fail
        refine bodyPost_ret (v := .tuple #[.agg (brow old), .agg (brow old), .bool false]) ?_ rfl ⟨old, old, by rw [unhide HBV], ho, ho, (fun y hy => by rw [unhide HC] at hy; cases hy), unhide HK9⟩
        exact results_cell_cell_tmp rfl _ _ (w.heap.size + 1) (w.heap.size + 1 + 1) _ _ (brow old) (brow old) (0, 0) (0, 0) _ _ rfl (unhide HH).1 rfl (unhide HH).2 Tryd.underlying23 rfl (by rw [brow_size, hol]; exact Tryd.size_dig) Tryd.underlying23 rfl (by rw [brow_size, hol]; exact Tryd.size_dig) _ rfl
      | false =>
        by_cases hr : r.length = 0
        · have hr1 : (((r.length : Int) + 1) != 1) = false := by simp; omega
          have hr0 : (0 : Int) < (r.length : Int) + 1 := by omega
          have hre : r = [] := List.eq_nil_of_length_eq_zero hr
          obtain ⟨b0, off, rfl, hcell⟩ := unhide H5 (by omega)
          have HRX0 := hide (by have := hcell 0 (by omega); rw [hre] at this; simpa using this : w.rangeAt b0 off (x.map u8))
          have hb0 : b0 < w.heap.size := by
            have h9 := unhide HRX0 0 (u8 (x.getD 0 0)) (by rw [List.getElem?_map, List.getD_eq_getElem?_getD, List.getElem?_eq_getElem (show 0 < x.length by omega)]; rfl)
            exact block_lt_of_cell h9
          clear hcell
          have HC := hide (by rw [← unhide HFF]; simp [twD, h1, hre] : F = some (x, x))
          have HBV := hide (by rw [unhide HC]; rfl : F.isSome = true)
          go_wp2_with fail
          rw [zb32]
          obtain ⟨W0, hW0⟩ : ∃ W0, ((w.alloc (.cells (brow old) 23)).alloc (.cells (zb 32) 23)).alloc (.cells (zb 32) 23) = W0 := ⟨_, rfl⟩
          rw [hW0] at HGL HGZ HGY HK0 ⊢
          have HZN := HGZ
          have HYN := HGY
          have HRO := hide (range_row (unhide HGL))
          clear hW0
          have HRX := hide (range_kept (unhide HRX0) (unhide HK0) (by simp))
          refine wp_r9 (w.heap.size + 1) (w.heap.size + 1 + 1) (by kernel_rfl) (by kernel_rfl) (by kernel_rfl) (by kernel_rfl) (by kernel_rfl) (by kernel_rfl) (by kernel_rfl) (by kernel_rfl) (by kernel_rfl) (by kernel_rfl) (by kernel_rfl) (by kernel_rfl) (by kernel_rfl) (by kernel_rfl) (by kernel_rfl) (by kernel_rfl) (by kernel_rfl) (by kernel_rfl) (by kernel_rfl) rfl rfl
            (.slice (some ⟨b0, off, none⟩) (r.length + 1) cap) (.pointer (some ⟨b0, off, none⟩)) (.agg (x.map u8).toArray) (.slice (some ⟨b0, off, none⟩) (r.length + 1) cap) (.pointer (some ⟨b0, off, none⟩)) (.agg (x.map u8).toArray) (.bool true) _ _ _ _ _ _ _ _ _ (by simp only [Act.put, List.setIfInBounds_toArray, List.set_cons_zero, List.set_cons_succ]; rfl) (by simp only [Act.put, List.setIfInBounds_toArray, List.set_cons_zero, List.set_cons_succ]; rfl) (by simp only [Act.put, List.setIfInBounds_toArray, List.set_cons_zero, List.set_cons_succ]; rfl) (by simp only [Act.put, List.setIfInBounds_toArray, List.set_cons_zero, List.set_cons_succ]; rfl) (by simp only [Act.put, List.setIfInBounds_toArray, List.set_cons_zero, List.set_cons_succ]; rfl) (by simp only [Act.put, List.setIfInBounds_toArray, List.set_cons_zero, List.set_cons_succ]; rfl) (by simp only [Act.put, List.setIfInBounds_toArray, List.set_cons_zero, List.set_cons_succ]; rfl) (by simp only [Act.put, List.setIfInBounds_toArray, List.set_cons_zero, List.set_cons_succ]; rfl) (by simp only [Act.put, List.setIfInBounds_toArray, List.set_cons_zero, List.set_cons_succ]; rfl)
            (by exact Or.inl ⟨by rfl, fun W' hW' => by go_simp⟩)
            (by exact Or.inl ⟨by rfl, fun W' hW' => by go_simp⟩)
            (by exact yieldsIf_load_mid (by rfl) _ _ rfl b0 off rfl (x.map u8) _ (fun W' hW' => range_kept (unhide HRX) hW' (by simp; omega)) Tryd.underlying23 rfl (unhide HSX1))
            (by exact Or.inl ⟨by rfl, fun W' hW' => by go_simp⟩)
            (by exact Or.inl ⟨by rfl, fun W' hW' => by go_simp⟩)
            (by exact yieldsIf_load_mid (by rfl) _ _ rfl b0 off rfl (x.map u8) _ (fun W' hW' => range_kept (unhide HRX) hW' (by simp; omega)) Tryd.underlying23 rfl (unhide HSX1))
            23 23 _ _ _ _ rfl rfl (brow x) (brow x) (zb 32) (zb 32) 23 23 (by omega)
            (by rfl) (by rfl) (unhide HZN) (by rw [brow_size, hxl]; exact Tryd.size_dig) (by rw [zb_size, brow_size, hxl]) (brow_one _)
            (by rfl) (by rfl) (unhide HYN) (by rw [brow_size, hxl]; exact Tryd.size_dig) (by rw [zb_size, brow_size, hxl]) (brow_one _)
            (by exact Or.inl ⟨by rfl, fun W' hW' => by go_simp⟩) ?_
          intro w9 k9
          have HH := hide (two_heaps k9 (unhide HZN) (unhide HYN) (by omega) (brow x) (brow x))
          have HK9 := hide ((((unhide HK0).trans k9 (by simp)).setRow (g := w.heap.size + 1) (Or.inr (by omega)) (brow x)).setRow (g := w.heap.size + 1 + 1) (Or.inr (by omega)) (brow x))
          clear k9
          go_wp2_with fail
          refine bodyPost_ret (v := .tuple #[.agg (brow x), .agg (brow x), .bool true]) ?_ rfl ⟨x, x, by rw [unhide HBV], (unhide HX), (unhide HX), (fun y hy => by rw [unhide HC] at hy; cases hy; rfl), unhide HK9⟩
          exact results_cell_cell_tmp rfl _ _ (w.heap.size + 1) (w.heap.size + 1 + 1) _ _ (brow x) (brow x) (0, 0) (0, 0) _ _ rfl (unhide HH).1 rfl (unhide HH).2 Tryd.underlying23 rfl (by rw [brow_size, hxl]; exact Tryd.size_dig) Tryd.underlying23 rfl (by rw [brow_size, hxl]; exact Tryd.size_dig) _ rfl
        · have hr1 : (((r.length : Int) + 1) != 1) = true := by simp; omega
          have hre : r ≠ [] := fun e => hr (by rw [e]; rfl)
          have HC := hide (by rw [← unhide HFF]; simp [twD, h1, hre] : F = none)
          have HBV := hide (by rw [unhide HC]; rfl : F.isSome = false)
          go_wp2_with fail
          rw [zb32]
          obtain ⟨W0, hW0⟩ : ∃ W0, ((w.alloc (.cells (brow old) 23)).alloc (.cells (zb 32) 23)).alloc (.cells (zb 32) 23) = W0 := ⟨_, rfl⟩
          rw [hW0] at HGL HGZ HGY HK0 ⊢
          have HZN := HGZ
          have HYN := HGY
          have HRO := hide (range_row (unhide HGL))
          clear hW0
          refine wp_r5 (w.heap.size + 1) (w.heap.size + 1 + 1) (by kernel_rfl) (by kernel_rfl) (by kernel_rfl) (by kernel_rfl) (by kernel_rfl) (by kernel_rfl) (by kernel_rfl) (by kernel_rfl) (by kernel_rfl) (by kernel_rfl) (by kernel_rfl) rfl rfl
            (.agg (old.map u8).toArray) (.agg (old.map u8).toArray) (.bool false) _ _ _ _ _ (by simp only [Act.put, List.setIfInBounds_toArray, List.set_cons_zero, List.set_cons_succ]; rfl) (by simp only [Act.put, List.setIfInBounds_toArray, List.set_cons_zero, List.set_cons_succ]; rfl) (by simp only [Act.put, List.setIfInBounds_toArray, List.set_cons_zero, List.set_cons_succ]; rfl) (by simp only [Act.put, List.setIfInBounds_toArray, List.set_cons_zero, List.set_cons_succ]; rfl) (by simp only [Act.put, List.setIfInBounds_toArray, List.set_cons_zero, List.set_cons_succ]; rfl)
            (by exact yieldsIf_load_mid (by rfl) _ _ rfl w.heap.size 0 rfl (old.map u8) _ (fun W' hW' => range_kept (unhide HRO) hW' (by simp; omega)) Tryd.underlying23 rfl (unhide HSL))
            (by exact yieldsIf_load_mid (by rfl) _ _ rfl w.heap.size 0 rfl (old.map u8) _ (fun W' hW' => range_kept (unhide HRO) hW' (by simp; omega)) Tryd.underlying23 rfl (unhide HSL))
            23 23 _ _ _ _ rfl rfl (brow old) (brow old) (zb 32) (zb 32) 23 23 (by omega)
            (by rfl) (by rfl) (unhide HZN) (by rw [brow_size, hol]; exact Tryd.size_dig) (by rw [zb_size, brow_size, hol]) (brow_one _)
            (by rfl) (by rfl) (unhide HYN) (by rw [brow_size, hol]; exact Tryd.size_dig) (by rw [zb_size, brow_size, hol]) (brow_one _)
            (by exact Or.inl ⟨by rfl, fun W' hW' => by go_simp⟩) ?_
          intro w9 k9
          have HH := hide (two_heaps k9 (unhide HZN) (unhide HYN) (by omega) (brow old) (brow old))
          have HK9 := hide ((((unhide HK0).trans k9 (by simp)).setRow (g := w.heap.size + 1) (Or.inr (by omega)) (brow old)).setRow (g := w.heap.size + 1 + 1) (Or.inr (by omega)) (brow old))
          clear k9
          go_wp2_with fail
          refine bodyPost_ret (v := .tuple #[.agg (brow old), .agg (brow old), .bool false]) ?_ rfl ⟨old, old, by rw [unhide HBV], ho, ho, (fun y hy => by rw [unhide HC] at hy; cases hy), unhide HK9⟩
          exact results_cell_cell_tmp rfl _ _ (w.heap.size + 1) (w.heap.size + 1 + 1) _ _ (brow old) (brow old) (0, 0) (0, 0) _ _ rfl (unhide HH).1 rfl (unhide HH).2 Tryd.underlying23 rfl (by rw [brow_size, hol]; exact Tryd.size_dig) Tryd.underlying23 rfl (by rw [brow_size, hol]; exact Tryd.size_dig) _ rfl
    · have h1' : ((m : Int) == n) = false := by simp; omega
      have hne : (((r.length : Int) + 1) == 0) = false := by simp; omega
      go_wp2_with fail
      refine Calls.mono (ended_any _ (x :: r).reverse r x _ ((unhide HP).old (unhide HK0)) (by simp)) ?_
      rintro e w1 ⟨u1, rfl, d1, k1⟩
      have HD1 := hide d1
      have HG1 := hide (k1.heap (unhide HGL) (by simp))
      have HZ1 := hide (k1.heap (unhide HGZ) (by simp))
      have HY1 := hide (k1.heap (unhide HGY) (by simp))
      have HK1 := hide ((unhide HK0).trans k1 (by simp))
      obtain ⟨a1, n1, c1, rfl, _⟩ := id d1
      clear d1 k1 HGL HGZ HGY
      have HNE0 := hide (by have h8 := lt_of_heap (unhide HY1); omega : w1.heap.size ≠ w.heap.size + 1 ∧ w1.heap.size ≠ w.heap.size + 1 + 1)
      have HXW := hide (setRow_heap (w1.alloc (.cells (zb 32) 23)) w1.heap.size (zb 32) (brow x) 23 (0, 0) (heap_alloc_new _ _))
      have k2 := ((Kept.refl [] w1).alloc (.cells (zb 32) 23)).setRow (g := w1.heap.size) (Or.inr (Nat.le_refl _)) (brow x)
      have HSX := hide (by rw [brow_size, hxl]; exact Tryd.size_dig : (Tryd.prog.info? 23).map (·.size) = some (brow x).size)
      have HSXL := hide (by rw [List.length_map, hxl]; exact Tryd.size_dig : (Tryd.prog.info? 23).map (·.size) = some (x.map u8).length)
      have HSL := hide (by rw [List.length_map, hol]; exact Tryd.size_dig : (Tryd.prog.info? 23).map (·.size) = some (old.map u8).length)
      have HD2 := hide ((unhide HD1).old k2)
      have HG2 := hide (k2.heap (unhide HG1) (by simp))
      have HZ2 := hide (k2.heap (unhide HZ1) (by simp))
      have HY2 := hide (k2.heap (unhide HY1) (by simp))
      have HK2 := hide ((unhide HK1).trans k2 (by simp))
      clear k2 HD1 HG1 HZ1 HY1
      go_wp2_with (rw [zb32]; refine wpList_store_row rfl 23 _ _ rfl w1.heap.size (brow x) rfl rfl _ (zb 32) (heap_alloc_new _ _) (unhide HSX) (by rw [zb_size, brow_size, hxl]) (brow_one _) ?_)
      refine Calls.mono (refSplit_any n _ (by omega) hn) ?_
      rintro e w3 ⟨rfl, k3⟩
      have HX3 := hide (k3.heap (unhide HXW) (by simp))
      have HD3 := hide ((unhide HD2).old k3)
      have HG3 := hide (k3.heap (unhide HG2) (by simp))
      have HZ3 := hide (k3.heap (unhide HZ2) (by simp))
      have HY3 := hide (k3.heap (unhide HY2) (by simp))
      have HK3 := hide ((unhide HK2).trans k3 (by simp))
      clear k3 HXW HD2 HG2 HZ2 HY2
      have hk1 := spl_pos n
      have hk2 := spl_lt (n := n) (by omega)
      have HK12 := hide (unhide HK1).size
      have HNE := hide (unhide HNE0)
      by_cases hik : m ≤ spl n
      · have hik' : (m : Int) ≤ (spl n : Nat) := by omega
        have HC := hide (by rw [← unhide HFF]; conv => lhs; unfold twD; rw [if_neg h1, if_pos hik] : F = (twD k old r m (spl n) b).map (fun y => (y.1, nodS k y.2 x)))
        have IH := fun (w' : World) (h' : RdD w' (.slice a1 n1 c1) r.reverse) => ih m (spl n) b (.slice a1 n1 c1) w' hm1 hik (by omega) h'
        generalize twD k old r m (spl n) b = O at HC IH
        go_wp2_with (refine wpList_load_mid rfl 23 _ rfl w.heap.size 0 rfl (old.map u8) _ (range_row (unhide HG3)) Tryd.underlying23 rfl (unhide HSL) ?_)
        refine Calls.mono (IH _ (unhide HD3)) ?_
        rintro e w4 ⟨d4, d5, rfl, g4, g5, q4, k4⟩
        have H4 := hide g4
        have H5' := hide g5
        have HQ := hide q4
        have hl4 := g4.1
        have hl5 := g5.1
        have HS4 := hide (by rw [List.length_map, hl4]; exact Tryd.size_dig : (Tryd.prog.info? 23).map (·.size) = some (d4.map u8).length)
        have HS5 := hide (by rw [List.length_map, hl5]; exact Tryd.size_dig : (Tryd.prog.info? 23).map (·.size) = some (d5.map u8).length)
        have HA0 := hide (((Kept.refl [] (w4.alloc (.cells (zb 32) 23))).alloc (.cells (zb 32) 23)).heap (heap_alloc_new w4 (.cells (zb 32) 23)) (by simp))
        have HB0 := hide ((setRow_other ((w4.alloc (.cells (zb 32) 23)).alloc (.cells (zb 32) 23)) w4.heap.size (w4.heap.size + 1) (brow d4) (by omega)).trans (alloc_at w4 (.cells (zb 32) 23) (.cells (zb 32) 23)))
        have kab := ((((Kept.refl [] w4).alloc (.cells (zb 32) 23)).alloc (.cells (zb 32) 23)).setRow (g := w4.heap.size) (Or.inr (Nat.le_refl _)) (brow d4)).setRow (g := w4.heap.size + 1) (Or.inr (by omega)) (brow d5)
        have HA1 := hide (range_row ((setRow_other (((w4.alloc (.cells (zb 32) 23)).alloc (.cells (zb 32) 23)).setRow w4.heap.size (brow d4)) (w4.heap.size + 1) w4.heap.size (brow d5) (by omega)).trans (setRow_heap _ _ _ (brow d4) _ _ (unhide HA0))))
        have HB1 := hide (range_row (setRow_heap (((w4.alloc (.cells (zb 32) 23)).alloc (.cells (zb 32) 23)).setRow w4.heap.size (brow d4)) _ _ (brow d5) _ _ (unhide HB0)))
        have kk := k4.trans kab (by simp)
        have HZN := hide (kk.heap (unhide HZ3) (by simp))
        have HYN := hide (kk.heap (unhide HY3) (by simp))
        have HXN := hide (range_row (kk.heap (unhide HX3) (by simp)))
        have HKN := hide ((unhide HK3).trans kk (by simp))
        have hsz1 := (unhide HK12)
        have hsz4 : w.heap.size + 1 + 1 < w4.heap.size := by have := lt_of_heap (k4.heap (unhide HY3) (by simp)); omega
        have hszx : w1.heap.size ≠ w.heap.size + 1 ∧ w1.heap.size ≠ w.heap.size + 1 + 1 := unhide HNE
        clear k4 kab kk g4 g5 q4 HZ3 HY3 HX3 HD3 HG3 IH
        go_wp2_with (first
          | (rw [zb32]; refine wpList_store_row rfl 23 _ _ rfl w4.heap.size (brow d4) rfl rfl _ (zb 32) (unhide HA0) (by rw [brow_size, hl4]; exact Tryd.size_dig) (by rw [zb_size, brow_size, hl4]) (brow_one _) ?_)
          | (refine wpList_store_row rfl 23 _ _ rfl (w4.heap.size + 1) (brow d5) rfl rfl _ (zb 32) (unhide HB0) (by rw [brow_size, hl5]; exact Tryd.size_dig) (by rw [zb_size, brow_size, hl5]) (brow_one _) ?_))
        obtain ⟨Y, hY⟩ : ∃ Y, (((w4.alloc (.cells (zb 32) 23)).alloc (.cells (zb 32) 23)).setRow w4.heap.size (brow d4)).setRow (w4.heap.size + 1) (brow d5) = Y := ⟨_, rfl⟩
        rw [hY] at HA1 HB1 HZN HYN HXN HKN ⊢
        clear hY HA0 HB0
        have HBV := hide (by rw [unhide HC]; cases O <;> rfl : F.isSome = O.isSome)
        refine wp_r9c (w.heap.size + 1) (w.heap.size + 1 + 1) (by kernel_rfl) (by kernel_rfl) (by kernel_rfl) (by kernel_rfl) (by kernel_rfl) (by kernel_rfl) (by kernel_rfl) (by kernel_rfl) (by kernel_rfl) (by kernel_rfl) (by kernel_rfl) (by kernel_rfl) (by kernel_rfl) (by kernel_rfl) (by kernel_rfl) (by kernel_rfl) (by kernel_rfl) (by kernel_rfl) rfl rfl rfl
          (.agg (d4.map u8).toArray) (.int .i64 (k : Int)) (.agg (d5.map u8).toArray) (.agg (x.map u8).toArray) (.bool O.isSome) (.agg (brow (nodS k d5 x))) (.bool O.isSome) _ _ _ _ _ _ _ _ _ (by simp only [Act.put, List.setIfInBounds_toArray, List.set_cons_zero, List.set_cons_succ]; rfl) (by simp only [Act.put, List.setIfInBounds_toArray, List.set_cons_zero, List.set_cons_succ]; rfl) (by simp only [Act.put, List.setIfInBounds_toArray, List.set_cons_zero, List.set_cons_succ]; rfl) (by simp only [Act.put, List.setIfInBounds_toArray, List.set_cons_zero, List.set_cons_succ]; rfl) (by simp only [Act.put, List.setIfInBounds_toArray, List.set_cons_zero, List.set_cons_succ]; rfl) (by simp only [Act.put, List.setIfInBounds_toArray, List.set_cons_zero, List.set_cons_succ]; rfl) (by simp only [Act.put, List.setIfInBounds_toArray, List.set_cons_zero, List.set_cons_succ]; rfl) (by simp only [Act.put, List.setIfInBounds_toArray, List.set_cons_zero, List.set_cons_succ]; rfl) (by simp only [Act.put, List.setIfInBounds_toArray, List.set_cons_zero, List.set_cons_succ]; rfl)
          (by exact yieldsIf_load_mid (by rfl) _ _ rfl w4.heap.size 0 rfl (d4.map u8) _ (fun W' hW' => range_kept (unhide HA1) hW' (by simp; omega)) Tryd.underlying23 rfl (unhide HS4))
          (by exact Or.inl ⟨by rfl, fun W' hW' => by go_simp⟩)
          (by exact yieldsIf_load_mid (by rfl) _ _ rfl (w4.heap.size + 1) 0 rfl (d5.map u8) _ (fun W' hW' => range_kept (unhide HB1) hW' (by simp; omega)) Tryd.underlying23 rfl (unhide HS5))
          (by exact yieldsIf_load_mid (by rfl) _ _ rfl w1.heap.size 0 rfl (x.map u8) _ (fun W' hW' => range_kept (unhide HXN) hW' (by simp; omega)) Tryd.underlying23 rfl (unhide HSXL))
          (by exact Or.inl ⟨by rfl, fun W' hW' => by go_simp⟩)
          (by intro w0 hk0 K hK; exact wp_node (.tmp 76) (.tmp 77) (.tmp 78) _ rfl k d5 x rfl rfl rfl hk (unhide H5') (unhide HX) hK)
          23 23 _ _ _ _ rfl rfl (brow d4) (brow (nodS k d5 x)) (zb 32) (zb 32) 23 23 (by omega)
          (by rfl) (by rfl) (unhide HZN) (by rw [brow_size, hl4]; exact Tryd.size_dig) (by rw [zb_size, brow_size, hl4]) (brow_one _)
          (by rfl) (by rfl) (unhide HYN) (by rw [brow_size, (nodS_dg k d5 x).1]; exact Tryd.size_dig) (by rw [zb_size, brow_size, (nodS_dg k d5 x).1]) (brow_one _)
          (by exact Or.inl ⟨by rfl, fun W' hW' => by go_simp⟩) ?_
        intro w9 k9
        have HH := hide (two_heaps k9 (unhide HZN) (unhide HYN) (by omega) (brow d4) (brow (nodS k d5 x)))
        have HK9 := hide ((((unhide HKN).trans k9 (by simp)).setRow (g := w.heap.size + 1) (Or.inr (by omega)) (brow d4)).setRow (g := w.heap.size + 1 + 1) (Or.inr (by omega)) (brow (nodS k d5 x)))
        clear k9
        go_wp2_with fail
        refine bodyPost_ret (v := .tuple #[.agg (brow d4), .agg (brow (nodS k d5 x)), .bool O.isSome]) ?_ rfl ⟨d4, (nodS k d5 x), by rw [unhide HBV], (unhide H4), (nodS_dg k d5 x), (fun y hy => by rw [unhide HC] at hy; obtain ⟨u, hu, rfl⟩ := Option.map_eq_some_iff.1 hy; have h9 := unhide HQ u hu; rw [← h9]), unhide HK9⟩
        exact results_cell_cell_tmp rfl _ _ (w.heap.size + 1) (w.heap.size + 1 + 1) _ _ (brow d4) (brow (nodS k d5 x)) (0, 0) (0, 0) _ _ rfl (unhide HH).1 rfl (unhide HH).2 Tryd.underlying23 rfl (by rw [brow_size, hl4]; exact Tryd.size_dig) Tryd.underlying23 rfl (by rw [brow_size, (nodS_dg k d5 x).1]; exact Tryd.size_dig) _ rfl
      · have hik' : ¬ (m : Int) ≤ (spl n : Nat) := by omega
        have hs1 : ((m : Int) - (spl n : Nat)) = ((m - spl n : Nat) : Int) := by omega
        have hs2 : ((n : Int) - (spl n : Nat)) = ((n - spl n : Nat) : Int) := by omega
        have hb1 : ((spl n : Nat) : Int) ≤ m := by omega
        have hb2 : ((spl n : Nat) : Int) ≤ n := by omega
        have HC := hide (by rw [← unhide HFF]; conv => lhs; unfold twD; rw [if_neg h1, if_neg hik] : F = (twD k old r (m - spl n) (n - spl n) false).map (fun y => (nodS k x y.1, nodS k x y.2)))
        have IH := fun (w' : World) (h' : RdD w' (.slice a1 n1 c1) r.reverse) => ih (m - spl n) (n - spl n) false (.slice a1 n1 c1) w' (by omega) (by omega) (by omega) h'
        generalize twD k old r (m - spl n) (n - spl n) false = O at HC IH
        go_wp2_with (refine wpList_load_mid rfl 23 _ rfl w.heap.size 0 rfl (old.map u8) _ (range_row (unhide HG3)) Tryd.underlying23 rfl (unhide HSL) ?_)
        refine Calls.mono (IH _ (unhide HD3)) ?_
        rintro e w4 ⟨d4, d5, rfl, g4, g5, q4, k4⟩
        have H4 := hide g4
        have H5' := hide g5
        have HQ := hide q4
        have hl4 := g4.1
        have hl5 := g5.1
        have HS4 := hide (by rw [List.length_map, hl4]; exact Tryd.size_dig : (Tryd.prog.info? 23).map (·.size) = some (d4.map u8).length)
        have HS5 := hide (by rw [List.length_map, hl5]; exact Tryd.size_dig : (Tryd.prog.info? 23).map (·.size) = some (d5.map u8).length)
        have HA0 := hide (((Kept.refl [] (w4.alloc (.cells (zb 32) 23))).alloc (.cells (zb 32) 23)).heap (heap_alloc_new w4 (.cells (zb 32) 23)) (by simp))
        have HB0 := hide ((setRow_other ((w4.alloc (.cells (zb 32) 23)).alloc (.cells (zb 32) 23)) w4.heap.size (w4.heap.size + 1) (brow d4) (by omega)).trans (alloc_at w4 (.cells (zb 32) 23) (.cells (zb 32) 23)))
        have kab := ((((Kept.refl [] w4).alloc (.cells (zb 32) 23)).alloc (.cells (zb 32) 23)).setRow (g := w4.heap.size) (Or.inr (Nat.le_refl _)) (brow d4)).setRow (g := w4.heap.size + 1) (Or.inr (by omega)) (brow d5)
        have HA1 := hide (range_row ((setRow_other (((w4.alloc (.cells (zb 32) 23)).alloc (.cells (zb 32) 23)).setRow w4.heap.size (brow d4)) (w4.heap.size + 1) w4.heap.size (brow d5) (by omega)).trans (setRow_heap _ _ _ (brow d4) _ _ (unhide HA0))))
        have HB1 := hide (range_row (setRow_heap (((w4.alloc (.cells (zb 32) 23)).alloc (.cells (zb 32) 23)).setRow w4.heap.size (brow d4)) _ _ (brow d5) _ _ (unhide HB0)))
        have kk := k4.trans kab (by simp)
        have HZN := hide (kk.heap (unhide HZ3) (by simp))
        have HYN := hide (kk.heap (unhide HY3) (by simp))
        have HXN := hide (range_row (kk.heap (unhide HX3) (by simp)))
        have HKN := hide ((unhide HK3).trans kk (by simp))
        have hsz1 := (unhide HK12)
        have hsz4 : w.heap.size + 1 + 1 < w4.heap.size := by have := lt_of_heap (k4.heap (unhide HY3) (by simp)); omega
        have hszx : w1.heap.size ≠ w.heap.size + 1 ∧ w1.heap.size ≠ w.heap.size + 1 + 1 := unhide HNE
        clear k4 kab kk g4 g5 q4 HZ3 HY3 HX3 HD3 HG3 IH
        go_wp2_with (first
          | (rw [zb32]; refine wpList_store_row rfl 23 _ _ rfl w4.heap.size (brow d4) rfl rfl _ (zb 32) (unhide HA0) (by rw [brow_size, hl4]; exact Tryd.size_dig) (by rw [zb_size, brow_size, hl4]) (brow_one _) ?_)
          | (refine wpList_store_row rfl 23 _ _ rfl (w4.heap.size + 1) (brow d5) rfl rfl _ (zb 32) (unhide HB0) (by rw [brow_size, hl5]; exact Tryd.size_dig) (by rw [zb_size, brow_size, hl5]) (brow_one _) ?_))
        obtain ⟨Y, hY⟩ : ∃ Y, (((w4.alloc (.cells (zb 32) 23)).alloc (.cells (zb 32) 23)).setRow w4.heap.size (brow d4)).setRow (w4.heap.size + 1) (brow d5) = Y := ⟨_, rfl⟩
        rw [hY] at HA1 HB1 HZN HYN HXN HKN ⊢
        clear hY HA0 HB0
        have HBV := hide (by rw [unhide HC]; cases O <;> rfl : F.isSome = O.isSome)
        refine wp_r12c (w.heap.size + 1) (w.heap.size + 1 + 1) (by kernel_rfl) (by kernel_rfl) (by kernel_rfl) (by kernel_rfl) (by kernel_rfl) (by kernel_rfl) (by kernel_rfl) (by kernel_rfl) (by kernel_rfl) (by kernel_rfl) (by kernel_rfl) (by kernel_rfl) (by kernel_rfl) (by kernel_rfl) (by kernel_rfl) (by kernel_rfl) (by kernel_rfl) (by kernel_rfl) (by kernel_rfl) (by kernel_rfl) (by kernel_rfl) (by kernel_rfl) (by kernel_rfl) rfl rfl rfl rfl
          (.int .i64 (k : Int)) (.agg (x.map u8).toArray) (.agg (d4.map u8).toArray) (.int .i64 (k : Int)) (.agg (x.map u8).toArray) (.agg (d5.map u8).toArray) (.bool O.isSome) (.agg (brow (nodS k x d4))) (.agg (brow (nodS k x d5))) (.bool O.isSome) _ _ _ _ _ _ _ _ _ _ _ _ (by simp only [Act.put, List.setIfInBounds_toArray, List.set_cons_zero, List.set_cons_succ]; rfl) (by simp only [Act.put, List.setIfInBounds_toArray, List.set_cons_zero, List.set_cons_succ]; rfl) (by simp only [Act.put, List.setIfInBounds_toArray, List.set_cons_zero, List.set_cons_succ]; rfl) (by simp only [Act.put, List.setIfInBounds_toArray, List.set_cons_zero, List.set_cons_succ]; rfl) (by simp only [Act.put, List.setIfInBounds_toArray, List.set_cons_zero, List.set_cons_succ]; rfl) (by simp only [Act.put, List.setIfInBounds_toArray, List.set_cons_zero, List.set_cons_succ]; rfl) (by simp only [Act.put, List.setIfInBounds_toArray, List.set_cons_zero, List.set_cons_succ]; rfl) (by simp only [Act.put, List.setIfInBounds_toArray, List.set_cons_zero, List.set_cons_succ]; rfl) (by simp only [Act.put, List.setIfInBounds_toArray, List.set_cons_zero, List.set_cons_succ]; rfl) (by simp only [Act.put, List.setIfInBounds_toArray, List.set_cons_zero, List.set_cons_succ]; rfl) (by simp only [Act.put, List.setIfInBounds_toArray, List.set_cons_zero, List.set_cons_succ]; rfl) (by simp only [Act.put, List.setIfInBounds_toArray, List.set_cons_zero, List.set_cons_succ]; rfl)
          (by exact Or.inl ⟨by rfl, fun W' hW' => by go_simp⟩)
          (by exact yieldsIf_load_mid (by rfl) _ _ rfl w1.heap.size 0 rfl (x.map u8) _ (fun W' hW' => range_kept (unhide HXN) hW' (by simp; omega)) Tryd.underlying23 rfl (unhide HSXL))
          (by exact yieldsIf_load_mid (by rfl) _ _ rfl w4.heap.size 0 rfl (d4.map u8) _ (fun W' hW' => range_kept (unhide HA1) hW' (by simp; omega)) Tryd.underlying23 rfl (unhide HS4))
          (by exact Or.inl ⟨by rfl, fun W' hW' => by go_simp⟩)
          (by exact yieldsIf_load_mid (by rfl) _ _ rfl w1.heap.size 0 rfl (x.map u8) _ (fun W' hW' => range_kept (unhide HXN) hW' (by simp; omega)) Tryd.underlying23 rfl (unhide HSXL))
          (by exact yieldsIf_load_mid (by rfl) _ _ rfl (w4.heap.size + 1) 0 rfl (d5.map u8) _ (fun W' hW' => range_kept (unhide HB1) hW' (by simp; omega)) Tryd.underlying23 rfl (unhide HS5))
          (by exact Or.inl ⟨by rfl, fun W' hW' => by go_simp⟩)
          (by intro w0 hk0 K hK; exact wp_node (.tmp 95) (.tmp 96) (.tmp 97) _ rfl k x d4 rfl rfl rfl hk (unhide HX) (unhide H4) hK)
          (by intro w0 hk0 K hK; exact wp_node (.tmp 99) (.tmp 100) (.tmp 101) _ rfl k x d5 rfl rfl rfl hk (unhide HX) (unhide H5') hK)
          23 23 _ _ _ _ rfl rfl (brow (nodS k x d4)) (brow (nodS k x d5)) (zb 32) (zb 32) 23 23 (by omega)
          (by rfl) (by rfl) (unhide HZN) (by rw [brow_size, (nodS_dg k x d4).1]; exact Tryd.size_dig) (by rw [zb_size, brow_size, (nodS_dg k x d4).1]) (brow_one _)
          (by rfl) (by rfl) (unhide HYN) (by rw [brow_size, (nodS_dg k x d5).1]; exact Tryd.size_dig) (by rw [zb_size, brow_size, (nodS_dg k x d5).1]) (brow_one _)
          (by exact Or.inl ⟨by rfl, fun W' hW' => by go_simp⟩) ?_
        intro w9 k9
        have HH := hide (two_heaps k9 (unhide HZN) (unhide HYN) (by omega) (brow (nodS k x d4)) (brow (nodS k x d5)))
        have HK9 := hide ((((unhide HKN).trans k9 (by simp)).setRow (g := w.heap.size + 1) (Or.inr (by omega)) (brow (nodS k x d4))).setRow (g := w.heap.size + 1 + 1) (Or.inr (by omega)) (brow (nodS k x d5)))
        clear k9
        go_wp2_with fail
        refine bodyPost_ret (v := .tuple #[.agg (brow (nodS k x d4)), .agg (brow (nodS k x d5)), .bool O.isSome]) ?_ rfl ⟨(nodS k x d4), (nodS k x d5), by rw [unhide HBV], (nodS_dg k x d4), (nodS_dg k x d5), (fun y hy => by rw [unhide HC] at hy; obtain ⟨u, hu, rfl⟩ := Option.map_eq_some_iff.1 hy; have h9 := unhide HQ u hu; rw [← h9]), unhide HK9⟩
        exact results_cell_cell_tmp rfl _ _ (w.heap.size + 1) (w.heap.size + 1 + 1) _ _ (brow (nodS k x d4)) (brow (nodS k x d5)) (0, 0) (0, 0) _ _ rfl (unhide HH).1 rfl (unhide HH).2 Tryd.underlying23 rfl (by rw [brow_size, (nodS_dg k x d4).1]; exact Tryd.size_dig) Tryd.underlying23 rfl (by rw [brow_size, (nodS_dg k x d5).1]; exact Tryd.size_dig) _ rfl
end Go.Proofs.YtdeaciphaaefdaaDoor
namespace Go.Proofs.YtdeaciphaaefdaaDoor
open Go.RowKit Go.BigFrame
set_option linter.unusedVariables false
set_option linter.unusedSimpArgs false

set_option maxRecDepth 100000 in
set_option maxHeartbeats 2000000 in
theorem docRootsOf_any (z : Int) (m n : Nat) (leaf : List Nat) (pv : Value) (p : List (List Nat)) (w : World) (hz : -9223372036854775808 ≤ z ∧ z ≤ 9223372036854775807) (hl : Dg leaf) (hi : m < 18446744073709551616) (hn : n < 18446744073709551616) (hp : RdD w pv p) (hpl : p.length ≤ 1048576) :
    Calls Tryd.prog 8 #[.int .i64 z, .int .u64 m, .int .u64 n, .agg (brow leaf), pv] w fun e w' => e = .returned (.tuple #[.agg (brow (rootsD z leaf m n p).1), .agg (brow (rootsD z leaf m n p).2), .int .i64 (rootsE z leaf m n p)]) ∧ Kept [] w w' := by
  have HP := hide hp
  have hdg := rootsD_dg (z := z) (m := m) (n := n) hl (fun d hd => hp.dg hd)
  obtain ⟨ao, len, cap, rfl, h1, h2, h3, h4, h5⟩ := hp
  clear h4 h5
  subst h1
  have HL := hide hl
  have hll := hl.1
  obtain ⟨D, hD⟩ : ∃ D, rootsD z leaf m n p = D := ⟨_, rfl⟩
  obtain ⟨E, hE⟩ : ∃ E, rootsE z leaf m n p = E := ⟨_, rfl⟩
  have HD := hide hD
  have HE := hide hE
  rw [hD] at hdg
  rw [hD, hE]
  clear hD hE
  obtain ⟨D1, D2⟩ := D
  have hd1 := hdg.1.1
  have hd2 := hdg.2.1
  simp only at hd1 hd2 ⊢
  clear hdg
  go_enter Tryd.func8, Tryd.ntmps8
  have HGL := hide ((((Kept.refl [] (w.alloc (.cells (brow leaf) 23))).alloc (.cells (zb 32) 23)).alloc (.cells (zb 32) 23)).heap (heap_alloc_new w (.cells (brow leaf) 23)) (by simp))
  have HGZ := hide (((Kept.refl [] ((w.alloc (.cells (brow leaf) 23)).alloc (.cells (zb 32) 23))).alloc (.cells (zb 32) 23)).heap (alloc_at w (.cells (brow leaf) 23) (.cells (zb 32) 23)) (by simp))
  have HGY := hide (alloc3_at w (.cells (brow leaf) 23) (.cells (zb 32) 23) (.cells (zb 32) 23))
  have HK0 := hide ((((Kept.refl [] w).alloc (.cells (brow leaf) 23)).alloc (.cells (zb 32) 23)).alloc (.cells (zb 32) 23))
  obtain ⟨W0, hW0⟩ : ∃ W0, ((w.alloc (.cells (brow leaf) 23)).alloc (.cells (zb 32) 23)).alloc (.cells (zb 32) 23) = W0 := ⟨_, rfl⟩
  have hsz : w.heap.size + 1 + 1 + 1 = W0.heap.size := by rw [← hW0]; simp
  have HLIT := hide (own_lit1 W0 leaf hll)
  rw [hW0] at HGL HGZ HGY HK0
  have k0 := (Kept.refl [] W0).alloc (.cells (brow leaf) 23)
  have HK00 := hide k0
  have HP0 := hide ((unhide HP).old ((unhide HK0).trans k0 (by simp)))
  clear k0
  go_wp2_with (first
    | (rw [zb32, hW0]; refine wpList_load_mid rfl 23 _ rfl w.heap.size 0 rfl (leaf.map u8) _ (range_row (unhide HGL)) Tryd.underlying23 rfl (by rw [List.length_map, hll]; exact Tryd.size_dig) ?_)
    | (at_builtin; rw [zb32, one_dig leaf hll]; refine wpList_appendD rfl (.tmp 19) (.tmp 20) rfl rfl _ W0.heap.size (.slice (some ⟨W0.heap.size, 0, none⟩) 1 1) [leaf] p ao p.length cap (by exact unhide HLIT) (by exact unhide HP0) (by simp; omega) (by simp) rfl rfl ?_; intro ao1 cap1 w1 HO1 HG1; have HKG := hide ((unhide HK00).grown (unhide HG1) (by intro k hk; right; simp [Value.ownBlock] at hk; omega)); clear HG1))
  have HR1 := hide (rdd_owns (unhide HO1) (fun d hd => by rcases List.mem_append.1 hd with h | h; simp at h; subst h; exact unhide HL; exact (unhide HP).dg h))
  have HK1' := hide ((unhide HK0).trans (unhide HKG) (by simp))
  have HL1' := hide ((unhide HKG).heap (unhide HGL) (by simp))
  have HZ1' := hide ((unhide HKG).heap (unhide HGZ) (by simp))
  have HY1' := hide ((unhide HKG).heap (unhide HGY) (by simp))
  clear HGL HGZ HGY HO1 HKG HLIT HK00 HP0 hW0
  refine Calls.mono (refCheck_any z _ ([leaf] ++ p) _ hz (unhide HR1)) ?_
  rintro e w2 ⟨rfl, k2⟩
  have HK1 := hide ((unhide HK1').trans k2 (by simp))
  have HL1 := hide (k2.heap (unhide HL1') (by simp))
  have HZ1 := hide (k2.heap (unhide HZ1') (by simp))
  have HY1 := hide (k2.heap (unhide HY1') (by simp))
  clear k2 HK1' HL1' HZ1' HY1' HR1
  obtain ⟨f, hf⟩ : ∃ f, formedE z ([leaf] ++ p) = f := ⟨_, rfl⟩
  have HF := hide (show formedE z (leaf :: p) = f from hf)
  rw [hf]
  clear hf
  by_cases hf0 : f = 0
  · subst hf0
    obtain ⟨hw, hff⟩ := formedE_zero (unhide HF)
    by_cases hr : m = 0 ∨ n ≤ m
    · have HC := hide (by rw [← unhide HE, ← unhide HD]; exact rootsE_r (unhide HF) hr : E = 4 ∧ (D1, D2) = (zD, zD))
      have HYD := hide ((setRow_other w2 (w.heap.size + 1) (w.heap.size + 1 + 1) (zb 32) (by omega)).trans (unhide HY1))
      have HKK := hide (((unhide HK1).setRow (g := w.heap.size + 1) (Or.inr (by omega)) (zb 32)).setRow (g := w.heap.size + 1 + 1) (Or.inr (by omega)) (zb 32))
      have HZR := hide ((setRow_other (w2.setRow (w.heap.size + 1) (zb 32)) (w.heap.size + 1 + 1) (w.heap.size + 1) (zb 32) (by omega)).trans (setRow_heap w2 _ _ (zb 32) _ _ (unhide HZ1)))
      have HYR := hide (setRow_heap (w2.setRow (w.heap.size + 1) (zb 32)) _ _ (zb 32) _ _ (unhide HYD))
      by_cases hm0 : m = 0
      · have hr1 : (m : Int) < 1 := by omega
        have hrd : decide ((m : Int) < 1) = true := by simp; omega
        go_wp2_with (first
          | (rw [zb32]; refine wpList_store_row rfl 23 (.tmp 10) _ rfl (w.heap.size + 1) (zb 32) rfl rfl _ (zb 32) (unhide HZ1) (by rw [zb_size]; exact Tryd.size_dig) rfl (brow_one _) ?_)
          | (refine wpList_store_row rfl 23 (.tmp 11) _ rfl (w.heap.size + 1 + 1) (zb 32) rfl rfl _ (zb 32) (unhide HYD) (by rw [zb_size]; exact Tryd.size_dig) rfl (brow_one _) ?_))
        rw [(unhide HC).1]
        have HC1 := hide (Prod.mk.inj (unhide HC).2).1
        have HC2 := hide (Prod.mk.inj (unhide HC).2).2
        rw [unhide HC1, unhide HC2]
        refine bodyPost_ret (v := .tuple #[.agg (zb 32), .agg (zb 32), .int .i64 4]) ?_ rfl ⟨rfl, unhide HKK⟩
        exact results_cell_cell_tmp rfl _ _ (w.heap.size + 1) (w.heap.size + 1 + 1) _ _ (zb 32) (zb 32) (0, 0) (0, 0) _ _ rfl (unhide HZR) rfl (unhide HYR) Tryd.underlying23 rfl (by rw [zb_size]; exact Tryd.size_dig) Tryd.underlying23 rfl (by rw [zb_size]; exact Tryd.size_dig) _ rfl
      · have hr1 : ¬ (m : Int) < 1 := by omega
        have hrd : decide ((m : Int) < 1) = false := by simp; omega
        have hr2 : (n : Int) ≤ m := by omega
        have hrd2 : decide ((n : Int) ≤ m) = true := by simp; omega
        go_wp2_with (first
          | (rw [zb32]; refine wpList_store_row rfl 23 (.tmp 10) _ rfl (w.heap.size + 1) (zb 32) rfl rfl _ (zb 32) (unhide HZ1) (by rw [zb_size]; exact Tryd.size_dig) rfl (brow_one _) ?_)
          | (refine wpList_store_row rfl 23 (.tmp 11) _ rfl (w.heap.size + 1 + 1) (zb 32) rfl rfl _ (zb 32) (unhide HYD) (by rw [zb_size]; exact Tryd.size_dig) rfl (brow_one _) ?_))
        rw [(unhide HC).1]
        have HC1 := hide (Prod.mk.inj (unhide HC).2).1
        have HC2 := hide (Prod.mk.inj (unhide HC).2).2
        rw [unhide HC1, unhide HC2]
        refine bodyPost_ret (v := .tuple #[.agg (zb 32), .agg (zb 32), .int .i64 4]) ?_ rfl ⟨rfl, unhide HKK⟩
        exact results_cell_cell_tmp rfl _ _ (w.heap.size + 1) (w.heap.size + 1 + 1) _ _ (zb 32) (zb 32) (0, 0) (0, 0) _ _ rfl (unhide HZR) rfl (unhide HYR) Tryd.underlying23 rfl (by rw [zb_size]; exact Tryd.size_dig) Tryd.underlying23 rfl (by rw [zb_size]; exact Tryd.size_dig) _ rfl
    · have hr1 : ¬ (m : Int) < 1 := by omega
      have hrd : decide ((m : Int) < 1) = false := by simp; omega
      have hr2 : ¬ (n : Int) ≤ m := by omega
      have hrd2 : decide ((n : Int) ≤ m) = false := by simp; omega
      have hwd : 1 ≤ z ∧ z ≤ 32 := by simpa [widthB] using hw
      obtain ⟨k, rfl⟩ : ∃ k : Nat, z = k := ⟨z.toNat, by omega⟩
      have HC := hide (by rw [← unhide HE, ← unhide HD]; exact rootsE_c (unhide HF) hr : E = opF (twD k leaf p.reverse m n true) ∧ (D1, D2) = opP (twD k leaf p.reverse m n true))
      go_wp2_with (refine wpList_load_mid rfl 23 _ rfl w.heap.size 0 rfl (leaf.map u8) _ (range_row (unhide HL1)) Tryd.underlying23 rfl (by rw [List.length_map, hll]; exact Tryd.size_dig) ?_)
      refine Calls.mono (two_any k leaf ⟨by omega, by omega⟩ (unhide HL) p.reverse m n true _ _ (by omega) (by omega) hn (by rw [List.reverse_reverse]; exact (unhide HP).old (unhide HK1))) ?_
      rintro e w4 ⟨d4, d5, rfl, g4, g5, q4, k4⟩
      generalize twD k leaf p.reverse m n true = O at HC q4
      have HQ := hide q4
      have hl4 := g4.1
      have hl5 := g5.1
      have HS4 := hide (by rw [List.length_map, hl4]; exact Tryd.size_dig : (Tryd.prog.info? 23).map (·.size) = some (d4.map u8).length)
      have HS5 := hide (by rw [List.length_map, hl5]; exact Tryd.size_dig : (Tryd.prog.info? 23).map (·.size) = some (d5.map u8).length)
      have HA0 := hide (((Kept.refl [] (w4.alloc (.cells (zb 32) 23))).alloc (.cells (zb 32) 23)).heap (heap_alloc_new w4 (.cells (zb 32) 23)) (by simp))
      have HB0 := hide ((setRow_other ((w4.alloc (.cells (zb 32) 23)).alloc (.cells (zb 32) 23)) w4.heap.size (w4.heap.size + 1) (brow d4) (by omega)).trans (alloc_at w4 (.cells (zb 32) 23) (.cells (zb 32) 23)))
      have kab := ((((Kept.refl [] w4).alloc (.cells (zb 32) 23)).alloc (.cells (zb 32) 23)).setRow (g := w4.heap.size) (Or.inr (Nat.le_refl _)) (brow d4)).setRow (g := w4.heap.size + 1) (Or.inr (by omega)) (brow d5)
      have HA1 := hide (range_row ((setRow_other (((w4.alloc (.cells (zb 32) 23)).alloc (.cells (zb 32) 23)).setRow w4.heap.size (brow d4)) (w4.heap.size + 1) w4.heap.size (brow d5) (by omega)).trans (setRow_heap _ _ _ (brow d4) _ _ (unhide HA0))))
      have HB1 := hide (range_row (setRow_heap (((w4.alloc (.cells (zb 32) 23)).alloc (.cells (zb 32) 23)).setRow w4.heap.size (brow d4)) _ _ (brow d5) _ _ (unhide HB0)))
      have hsz4 : w.heap.size + 1 + 1 < w4.heap.size := by have := lt_of_heap (k4.heap (unhide HY1) (by simp)); omega
      have kk := k4.trans kab (by simp)
      have HZN := hide (kk.heap (unhide HZ1) (by simp))
      have HYN := hide (kk.heap (unhide HY1) (by simp))
      have HKN := hide ((unhide HK1).trans kk (by simp))
      clear g4 g5 q4 k4 kab kk HZ1 HY1 HL1
      cases O with
      | some d0 =>
        have HQ2 := hide (unhide HQ d0 rfl)
        have HE2 := hide (by rw [(unhide HC).1]; rfl : E = 0)
        have HD2 := hide (by have h9 := (unhide HC).2; rw [show opP (some d0) = d0 from rfl, ← unhide HQ2] at h9; exact h9 : (D1, D2) = (d4, d5))
        go_wp2_with (first
          | (rw [zb32]; refine wpList_store_row rfl 23 (.tmp 14) _ rfl w4.heap.size (brow d4) rfl rfl _ (zb 32) (unhide HA0) (by rw [brow_size, hl4]; exact Tryd.size_dig) (by rw [zb_size, brow_size, hl4]) (brow_one _) ?_)
          | (refine wpList_store_row rfl 23 (.tmp 15) _ rfl (w4.heap.size + 1) (brow d5) rfl rfl _ (zb 32) (unhide HB0) (by rw [brow_size, hl5]; exact Tryd.size_dig) (by rw [zb_size, brow_size, hl5]) (brow_one _) ?_))
        obtain ⟨Y, hY⟩ : ∃ Y, (((w4.alloc (.cells (zb 32) 23)).alloc (.cells (zb 32) 23)).setRow w4.heap.size (brow d4)).setRow (w4.heap.size + 1) (brow d5) = Y := ⟨_, rfl⟩
        rw [hY] at HA1 HB1 HZN HYN HKN ⊢
        clear hY HA0 HB0
        refine wp_r5 (w.heap.size + 1) (w.heap.size + 1 + 1) (by kernel_rfl) (by kernel_rfl) (by kernel_rfl) (by kernel_rfl) (by kernel_rfl) (by kernel_rfl) (by kernel_rfl) (by kernel_rfl) (by kernel_rfl) (by kernel_rfl) (by kernel_rfl) rfl rfl
          (.agg (d4.map u8).toArray) (.agg (d5.map u8).toArray) (.int .i64 0) _ _ _ _ _ (by simp only [Act.put, List.setIfInBounds_toArray, List.set_cons_zero, List.set_cons_succ]; rfl) (by simp only [Act.put, List.setIfInBounds_toArray, List.set_cons_zero, List.set_cons_succ]; rfl) (by simp only [Act.put, List.setIfInBounds_toArray, List.set_cons_zero, List.set_cons_succ]; rfl) (by simp only [Act.put, List.setIfInBounds_toArray, List.set_cons_zero, List.set_cons_succ]; rfl) (by simp only [Act.put, List.setIfInBounds_toArray, List.set_cons_zero, List.set_cons_succ]; rfl)
          (by exact yieldsIf_load_mid (by rfl) _ _ rfl w4.heap.size 0 rfl (d4.map u8) _ (fun W' hW' => range_kept (unhide HA1) hW' (by simp; omega)) Tryd.underlying23 rfl (unhide HS4))
          (by exact yieldsIf_load_mid (by rfl) _ _ rfl (w4.heap.size + 1) 0 rfl (d5.map u8) _ (fun W' hW' => range_kept (unhide HB1) hW' (by simp; omega)) Tryd.underlying23 rfl (unhide HS5))
          23 23 _ _ _ _ rfl rfl (brow d4) (brow d5) (zb 32) (zb 32) 23 23 (by omega)
          (by rfl) (by rfl) (unhide HZN) (by rw [brow_size, hl4]; exact Tryd.size_dig) (by rw [zb_size, brow_size, hl4]) (brow_one _)
          (by rfl) (by rfl) (unhide HYN) (by rw [brow_size, hl5]; exact Tryd.size_dig) (by rw [zb_size, brow_size, hl5]) (brow_one _)
          (by exact Or.inl ⟨by rfl, fun W' hW' => by go_simp⟩) ?_
        intro w9 k9
        have HH := hide (two_heaps k9 (unhide HZN) (unhide HYN) (by omega) (brow d4) (brow d5))
        have HK9 := hide ((((unhide HKN).trans k9 (by simp)).setRow (g := w.heap.size + 1) (Or.inr (by omega)) (brow d4)).setRow (g := w.heap.size + 1 + 1) (Or.inr (by omega)) (brow d5))
        clear k9
        have HDa := hide (Prod.mk.inj (unhide HD2)).1
        have HDb := hide (Prod.mk.inj (unhide HD2)).2
        go_wp2_with fail
        rw [unhide HE2, unhide HDa, unhide HDb]
        refine bodyPost_ret (v := .tuple #[.agg (brow d4), .agg (brow d5), .int .i64 0]) ?_ rfl ⟨rfl, unhide HK9⟩
        exact results_cell_cell_tmp rfl _ _ (w.heap.size + 1) (w.heap.size + 1 + 1) _ _ (brow d4) (brow d5) (0, 0) (0, 0) _ _ rfl (unhide HH).1 rfl (unhide HH).2 Tryd.underlying23 rfl (by rw [brow_size, hl4]; exact Tryd.size_dig) Tryd.underlying23 rfl (by rw [brow_size, hl5]; exact Tryd.size_dig) _ rfl
      | none =>
        have HE2 := hide (by rw [(unhide HC).1]; rfl : E = 10)
        have HD2 := hide (by rw [(unhide HC).2]; rfl : (D1, D2) = (zD, zD))
        have HDa := hide (Prod.mk.inj (unhide HD2)).1
        have HDb := hide (Prod.mk.inj (unhide HD2)).2
        have HYD := hide ((setRow_other ((((w4.alloc (.cells (zb 32) 23)).alloc (.cells (zb 32) 23)).setRow w4.heap.size (brow d4)).setRow (w4.heap.size + 1) (brow d5)) (w.heap.size + 1) (w.heap.size + 1 + 1) (zb 32) (by omega)).trans (unhide HYN))
        have HH := hide (two_heaps (Kept.refl [] _) (unhide HZN) (unhide HYN) (by omega) (zb 32) (zb 32))
        have HK9 := hide (((unhide HKN).setRow (g := w.heap.size + 1) (Or.inr (by omega)) (zb 32)).setRow (g := w.heap.size + 1 + 1) (Or.inr (by omega)) (zb 32))
        go_wp2_with (first
          | (rw [zb32]; refine wpList_store_row rfl 23 (.tmp 14) _ rfl w4.heap.size (brow d4) rfl rfl _ (zb 32) (unhide HA0) (by rw [brow_size, hl4]; exact Tryd.size_dig) (by rw [zb_size, brow_size, hl4]) (brow_one _) ?_; clear HA0)
          | (refine wpList_store_row rfl 23 (.tmp 15) _ rfl (w4.heap.size + 1) (brow d5) rfl rfl _ (zb 32) (unhide HB0) (by rw [brow_size, hl5]; exact Tryd.size_dig) (by rw [zb_size, brow_size, hl5]) (brow_one _) ?_; clear HB0)
          | (rw [zb32]; refine wpList_store_row rfl 23 (.tmp 10) _ rfl (w.heap.size + 1) (zb 32) rfl rfl _ (zb 32) (unhide HZN) (by rw [zb_size]; exact Tryd.size_dig) rfl (brow_one _) ?_)
          | (refine wpList_store_row rfl 23 (.tmp 11) _ rfl (w.heap.size + 1 + 1) (zb 32) rfl rfl _ (zb 32) (unhide HYD) (by rw [zb_size]; exact Tryd.size_dig) rfl (brow_one _) ?_))
        rw [unhide HE2, unhide HDa, unhide HDb]
        refine bodyPost_ret (v := .tuple #[.agg (zb 32), .agg (zb 32), .int .i64 10]) ?_ rfl ⟨rfl, unhide HK9⟩
        exact results_cell_cell_tmp rfl _ _ (w.heap.size + 1) (w.heap.size + 1 + 1) _ _ (zb 32) (zb 32) (0, 0) (0, 0) _ _ rfl (unhide HH).1 rfl (unhide HH).2 Tryd.underlying23 rfl (by rw [zb_size]; exact Tryd.size_dig) Tryd.underlying23 rfl (by rw [zb_size]; exact Tryd.size_dig) _ rfl
  · have hb : ((f : Int) != 0) = true := by simp; omega
    have hb2 : ((f : Int) == 0) = false := by simp; omega
    have HC := hide (by rw [← unhide HE, ← unhide HD, ← unhide HF]; exact rootsE_f (by rw [unhide HF]; exact hf0) : E = f ∧ (D1, D2) = (zD, zD))
    have HYD := hide ((setRow_other w2 (w.heap.size + 1) (w.heap.size + 1 + 1) (zb 32) (by omega)).trans (unhide HY1))
    have HKK := hide (((unhide HK1).setRow (g := w.heap.size + 1) (Or.inr (by omega)) (zb 32)).setRow (g := w.heap.size + 1 + 1) (Or.inr (by omega)) (zb 32))
    have HZR := hide ((setRow_other (w2.setRow (w.heap.size + 1) (zb 32)) (w.heap.size + 1 + 1) (w.heap.size + 1) (zb 32) (by omega)).trans (setRow_heap w2 _ _ (zb 32) _ _ (unhide HZ1)))
    have HYR := hide (setRow_heap (w2.setRow (w.heap.size + 1) (zb 32)) _ _ (zb 32) _ _ (unhide HYD))
    go_wp2_with (first
      | (rw [zb32]; refine wpList_store_row rfl 23 (.tmp 10) _ rfl (w.heap.size + 1) (zb 32) rfl rfl _ (zb 32) (unhide HZ1) (by rw [zb_size]; exact Tryd.size_dig) rfl (brow_one _) ?_)
      | (refine wpList_store_row rfl 23 (.tmp 11) _ rfl (w.heap.size + 1 + 1) (zb 32) rfl rfl _ (zb 32) (unhide HYD) (by rw [zb_size]; exact Tryd.size_dig) rfl (brow_one _) ?_))
    rw [(unhide HC).1]
    have HC1 := hide (Prod.mk.inj (unhide HC).2).1
    have HC2 := hide (Prod.mk.inj (unhide HC).2).2
    rw [unhide HC1, unhide HC2]
    refine bodyPost_ret (v := .tuple #[.agg (zb 32), .agg (zb 32), .int .i64 f]) ?_ rfl ⟨rfl, unhide HKK⟩
    exact results_cell_cell_tmp rfl _ _ (w.heap.size + 1) (w.heap.size + 1 + 1) _ _ (zb 32) (zb 32) (0, 0) (0, 0) _ _ rfl (unhide HZR) rfl (unhide HYR) Tryd.underlying23 rfl (by rw [zb_size]; exact Tryd.size_dig) Tryd.underlying23 rfl (by rw [zb_size]; exact Tryd.size_dig) _ rfl
end Go.Proofs.YtdeaciphaaefdaaDoor
namespace Go.Proofs.YtdeaciphaaefdaaDoor
open Go.RowKit Go.BigFrame
set_option linter.unusedVariables false
set_option linter.unusedSimpArgs false

theorem two_ranges {W Xf : World} {ga gb : Nat} {A B : List Value} (_h : Kept [] W ((Xf.setCells ga 0 A).setCells gb 0 B)) (ta : Xf.there ga 0 A.length) (tb : Xf.there gb 0 B.length) (hne : ga ≠ gb) : ((Xf.setCells ga 0 A).setCells gb 0 B).rangeAt ga 0 A ∧ ((Xf.setCells ga 0 A).setCells gb 0 B).rangeAt gb 0 B :=
  ⟨World.rangeAt_setCells_apart (World.rangeAt_setCells_same Xf ga 0 A ta) gb 0 B (Or.inl hne), World.rangeAt_setCells_same _ gb 0 B (World.there_setCells tb _ _ _)⟩
theorem name_range2 {X : World} {g g' n : Nat} {cs cs' : List Value} (h : X.rangeAt g 0 cs) (h' : X.rangeAt g' 0 cs') : ∃ Y a b, Y = X ∧ a = g ∧ b = g' ∧ Y.rangeAt a 0 cs ∧ Y.rangeAt b 0 cs' := ⟨X, g, g', rfl, rfl, rfl, h, h'⟩

set_option maxRecDepth 100000 in
set_option maxHeartbeats 8000000 in
theorem mcheckRootsOfs_walk (q : AskD) (pv : Value) (w : World) (hq : OkA w q pv) (hT : Tabs w) :
    Calls Tryd.prog 3 #[.agg (askC q pv).toArray] w fun e w' => e = .returned (.bool true) ∧ Below w.heap.size w w' := by
  have HT := hide hT
  have HQ := hide hq
  have hll := hq.l.1
  obtain ⟨ao, len, cap, rfl, h1, h2, h3, h4, h5⟩ := id hq.p
  clear hT h4 h5
  have HG := hide (heap_alloc_new w (.cells (askC q (.slice ao len cap)).toArray 27))
  have HK0 := hide ((Kept.refl [] w).alloc (.cells (askC q (.slice ao len cap)).toArray 27))
  obtain ⟨c0, r1, ⟨c33, c34, c35⟩, r36⟩ := ask_cells (unhide HG) hll
  have HR1 := hide r1
  have HR36 := hide r36
  clear r1 r36
  have HSL := hide (by rw [List.length_map, hll]; exact Tryd.size_dig : (Tryd.prog.info? 23).map (·.size) = some (q.l.map u8).length)
  have hdg := rootsD_dg (z := q.z) (m := q.i) (n := q.n) (unhide HQ).l (fun d hd => (unhide HQ).p.dg hd)
  obtain ⟨C, hC⟩ : ∃ C, rootsD q.z q.l q.i q.n q.p = C := ⟨_, rfl⟩
  obtain ⟨E, hE⟩ : ∃ E, rootsE q.z q.l q.i q.n q.p = E := ⟨_, rfl⟩
  rw [hC] at hdg
  have HC := hide hC
  have HE := hide hE
  clear hC hE
  obtain ⟨C1, C2⟩ := C
  have hl4 : (C1.map u8).length = 32 := by rw [List.length_map]; exact hdg.1.1
  have hl5 : (C2.map u8).length = 32 := by rw [List.length_map]; exact hdg.2.1
  have hc1 := hdg.1.1
  have hc2 := hdg.2.1
  simp only at hc1 hc2
  clear hdg
  have on1 : ∀ v ∈ C1.map u8, v.oneCell' = true := u8_oneCell _
  have on2 : ∀ v ∈ C2.map u8, v.oneCell' = true := u8_oneCell _
  have hi4 : (Tryd.prog.info? 23).map (·.size) = some (C1.map u8).length := by rw [hl4]; exact Tryd.size_dig
  have hi5 : (Tryd.prog.info? 23).map (·.size) = some (C2.map u8).length := by rw [hl5]; exact Tryd.size_dig
  have hud := Tryd.underlying23
  have hiL := unhide HSL
  have hr1 := unhide HR1
  have hth : ∀ W : World, (W.alloc (.cells (zb 32) 23)).there W.heap.size 0 32 := fun W => there_zb (heap_alloc_new W _)
  have hth2 : ∀ W : World, ((W.alloc (.cells (zb 32) 23)).alloc (.cells (zb 32) 23)).there W.heap.size 0 32 := fun W => there_zb (((Kept.refl [] (W.alloc (.cells (zb 32) 23))).alloc (.cells (zb 32) 23)).heap (heap_alloc_new W _) (by simp))
  have hth3 : ∀ W : World, ((W.alloc (.cells (zb 32) 23)).alloc (.cells (zb 32) 23)).there (W.heap.size + 1) 0 32 := fun W => there_zb (alloc_at W _ _)
  have hset : ∀ (X : World) (b g : Nat) (vs : List Value), X.there g 0 32 → (X.setCells b 0 vs).there g 0 32 := fun X b g vs h => World.there_setCells h b 0 vs
  rw [← zb32] at hth hth2 hth3
  go_enter Tryd.func3, Tryd.ntmps3
  go_wp2_with fail
  obtain ⟨W, hW⟩ : ∃ W, w.alloc (.cells (askC q (.slice ao len cap)).toArray 27) = W := ⟨_, rfl⟩
  rw [hW] at HG HK0 HR1 HR36 c0 c33 c34 c35 hr1 ⊢
  clear hW
  have HTW := hide ((unhide HT).k (unhide HK0))
  have HQW := hide ((unhide HQ).old (unhide HK0))
  have hgW : w.heap.size < W.heap.size := lt_of_heap (unhide HG)
  have hdr : W.drew.heap.size = W.heap.size := rfl
  go_region_held3 (fun w' => Kept [] W w' ∧ w'.rangeAt w.heap.size 1 (q.l.map u8) ∧ w'.cell? ⟨w.heap.size, 0, none⟩ = some (.int .i64 q.z) ∧ w'.cell? ⟨w.heap.size, 33, none⟩ = some (.int .u64 (q.i : Int)) ∧ w'.cell? ⟨w.heap.size, 34, none⟩ = some (.int .u64 (q.n : Int)) ∧ w'.cell? ⟨w.heap.size, 35, none⟩ = some (.slice ao len cap)) (first | assumption | exact ⟨(Kept.refl [] W).drew, hr1, c0, c33, c34, c35⟩ | exact held_k ‹Kept [] W _ ∧ _› k4 | exact held_k ‹Kept [] W _ ∧ _› k3 | exact held_k ‹Kept [] W _ ∧ _› ((Kept.refl [] _).alloc _) | exact held_s ‹Kept [] W _ ∧ _› (by omega) hgW _ _) (first
    | (go_at_call 7; refine (twinD_any _ q.p _ (by have h9 := ‹Kept [] W _ ∧ _›; exact (unhide HQW).p.old h9.1) (unhide HQW).pl).mono ?_; rintro e w3 ⟨u3, rfl, d3, k3, _⟩; have HD3 := hide d3; (try (have hhA := k3.heap (heap_alloc_new W.drew _) (by simp))); (try (have hhB := k3.heap (alloc_at W.drew _ _) (by simp))); (try (have hhA := k3.heap (heap_alloc2_old W.drew _ _) (by simp))); (try (have l1 := lt_of_heap hhA)); (try (have l2 := lt_of_heap hhB)); have hz3 : W.heap.size ≤ w3.heap.size := Nat.le_trans (‹Kept [] W _ ∧ _›).1.size k3.size; clear d3)
    | (go_at_call 6; refine (rootsOf_any q.z q.i q.n q.l _ q.p _ (unhide HQW).z (unhide HQW).l (unhide HQW).i (unhide HQW).n (by first | exact unhide HD3 | exact (unhide HD3).old ((Kept.refl [] w3).alloc _) | exact (unhide HD3).old (((Kept.refl [] w3).alloc _).alloc _)) (by have h9 := ‹Kept [] W _ ∧ _›; exact (unhide HTW).k h9.1)).mono ?_; rintro e w4 ⟨rfl, k4⟩; rw [unhide HC, unhide HE]; (try (have g1 := (by first | exact k4.heap hhA (by simp) | exact k4.heap (((Kept.refl [] w3).alloc _).heap hhA (by simp)) (by simp) : w4.heap[W.heap.size]? = _); rw [zb32] at g1; have t1 := there_zb g1; have t1a : ∀ Z, (w4.alloc Z).there W.heap.size 0 32 := fun Z => there_zb (((Kept.refl [] w4).alloc Z).heap g1 (by simp)))); (try (have g2 := (by exact k4.heap hhB (by simp) : w4.heap[W.heap.size + 1]? = _); rw [zb32] at g2; have t2 := there_zb g2)); (first | (have g4 := k4.heap (alloc_at w3 _ _) (by simp); rw [zb32] at g4; have t4 := there_zb g4; have g3 := k4.heap (((Kept.refl [] (w3.alloc _)).alloc _).heap (heap_alloc_new w3 _) (by simp)) (by simp); rw [zb32] at g3; have t3 := there_zb g3) | (have g3 := k4.heap (heap_alloc_new w3 _) (by simp); rw [zb32] at g3; have t3 := there_zb g3; have t3a : ∀ Z, (w4.alloc Z).there w3.heap.size 0 32 := fun Z => there_zb (((Kept.refl [] w4).alloc Z).heap g3 (by simp))) | skip); (try (have l3 := lt_of_heap g1)); (try (have l4 := lt_of_heap g2)); (try (have l5 := lt_of_heap g3)); (try (have l6 := lt_of_heap g4)); have hz4 : W.heap.size ≤ w4.heap.size := Nat.le_trans (‹Kept [] W _ ∧ _›).1.size k4.size))
  all_goals
    have hS9 := ‹Kept [] W _ ∧ _›
    have hR9 := two_ranges hS9.1 (by rw [hl4]; first | assumption | exact hth _ | exact hth2 _ | exact hth3 _ | exact t1a _ | exact t3a _) (by rw [hl5]; first | assumption | exact hth _ | exact hth2 _ | exact hth3 _ | exact t1a _ | exact t3a _) (by omega)
    obtain ⟨Y, ga, gb, hY, ha, hb, hRa, hRb⟩ := name_range2 (n := 0) hR9.1 hR9.2
    rw [← hY] at hS9
    rw [← hY]
    first | rw [← hb, ← ha] | rw [← ha, ← hb]
    obtain ⟨kY, rl, d0, d33, d34, d35⟩ := hS9
    clear hR9 hY ha hb
    have HKY := hide ((unhide HK0).trans kY (by simp))
    have HQY := hide ((unhide HQ).old (unhide HKY))
    have HRA := hide hRa
    have HRB := hide hRb
    have HRL := hide rl
    have HSA := hide hi4
    have HSB := hide hi5
    clear kY rl hRa hRb hth hth2 hth3 hset on1 on2 hi4 hi5 hud hiL hr1 c0 c33 c34 c35
    go_wp2_with (refine wpList_load_mid rfl 23 _ rfl w.heap.size 1 rfl (q.l.map u8) _ (unhide HRL) Tryd.underlying23 rfl (unhide HSL) ?_)
    refine Calls.mono (docRootsOf_any q.z q.i q.n q.l _ q.p _ (unhide HQ).z (unhide HQ).l (unhide HQ).i (unhide HQ).n (unhide HQY).p (unhide HQ).pl) ?_
    rintro e w6 ⟨rfl, k6⟩
    rw [unhide HC, unhide HE]
    simp only
    have HRA6 := hide (range_kept (unhide HRA) k6 (by simp))
    have HRB6 := hide (range_kept (unhide HRB) k6 (by simp))
    have HK6 := hide ((unhide HKY).trans k6 (by simp))
    have HA0 := hide (((Kept.refl [] (w6.alloc (.cells (zb 32) 23))).alloc (.cells (zb 32) 23)).heap (heap_alloc_new w6 (.cells (zb 32) 23)) (by simp))
    have HB0 := hide ((setRow_other ((w6.alloc (.cells (zb 32) 23)).alloc (.cells (zb 32) 23)) w6.heap.size (w6.heap.size + 1) (brow C1) (by omega)).trans (alloc_at w6 (.cells (zb 32) 23) (.cells (zb 32) 23)))
    have kab := ((((Kept.refl [] w6).alloc (.cells (zb 32) 23)).alloc (.cells (zb 32) 23)).setRow (g := w6.heap.size) (Or.inr (Nat.le_refl _)) (brow C1)).setRow (g := w6.heap.size + 1) (Or.inr (by omega)) (brow C2)
    have HA1 := hide (range_row ((setRow_other (((w6.alloc (.cells (zb 32) 23)).alloc (.cells (zb 32) 23)).setRow w6.heap.size (brow C1)) (w6.heap.size + 1) w6.heap.size (brow C2) (by omega)).trans (setRow_heap _ _ _ (brow C1) _ _ (unhide HA0))))
    have HB1 := hide (range_row (setRow_heap (((w6.alloc (.cells (zb 32) 23)).alloc (.cells (zb 32) 23)).setRow w6.heap.size (brow C1)) _ _ (brow C2) _ _ (unhide HB0)))
    have HRA7 := hide (range_kept (unhide HRA6) kab (by simp))
    have HRB7 := hide (range_kept (unhide HRB6) kab (by simp))
    have HK7 := hide ((unhide HK6).trans kab (by simp))
    clear k6 kab
    go_wp2_with (first
      | (rw [zb32]; refine wpList_store_row rfl 23 _ _ rfl w6.heap.size (brow C1) rfl rfl _ (zb 32) (unhide HA0) (by rw [brow_size, hc1]; exact Tryd.size_dig) (by rw [zb_size, brow_size, hc1]) (brow_one _) ?_; clear HA0)
      | (refine wpList_store_row rfl 23 _ _ rfl (w6.heap.size + 1) (brow C2) rfl rfl _ (zb 32) (unhide HB0) (by rw [brow_size, hc2]; exact Tryd.size_dig) (by rw [zb_size, brow_size, hc2]) (brow_one _) ?_; clear HB0))
    refine Calls.mono (mawake_any _ ((unhide HT).k (unhide HK7))) ?_
    rintro e w8 ⟨rfl, k8⟩
    have HRA8 := hide (range_kept (unhide HRA7) k8 (by simp))
    have HRB8 := hide (range_kept (unhide HRB7) k8 (by simp))
    have HA8 := hide (range_kept (unhide HA1) k8 (by simp))
    have HB8 := hide (range_kept (unhide HB1) k8 (by simp))
    have HK8 := hide ((unhide HK7).trans k8 (by simp))
    clear k8
    have hqa : ∀ W, (Op.equalIn 10000 23 (.agg (C1.map u8).toArray) (.agg (C1.map u8).toArray)).run Tryd.prog W = .ok true W := fun W => by have := dig_eq W C1 C1 hc1 hc1; rwa [decide_eq_true rfl] at this
    have hqb : ∀ W, (Op.equalIn 10000 23 (.agg (C2.map u8).toArray) (.agg (C2.map u8).toArray)).run Tryd.prog W = .ok true W := fun W => by have := dig_eq W C2 C2 hc2 hc2; rwa [decide_eq_true rfl] at this
    go_wp2_with (first
      | (refine wpList_load_midG rfl 23 _ rfl ga 0 rfl (C1.map u8) _ (unhide HRA8) Tryd.underlying23 rfl (unhide HSA) ?_)
      | (refine wpList_load_midG rfl 23 _ rfl gb 0 rfl (C2.map u8) _ (unhide HRB8) Tryd.underlying23 rfl (unhide HSB) ?_)
      | (refine wpList_load_midG rfl 23 _ rfl w6.heap.size 0 rfl (C1.map u8) _ (unhide HA8) Tryd.underlying23 rfl (unhide HSA) ?_)
      | (refine wpList_load_midG rfl 23 _ rfl (w6.heap.size + 1) 0 rfl (C2.map u8) _ (unhide HB8) Tryd.underlying23 rfl (unhide HSB) ?_))
    go_ret
    exact ⟨rfl, (unhide HK8).below (Nat.le_refl _) (by simp)⟩
end Go.Proofs.YtdeaciphaaefdaaDoor
namespace Go.Proofs.YtdeaciphaaefdaaDoor
open Go.ChangeShapes Go.WideShapes Go.ChangeAt Go.RowKit Go.Deep
set_option linter.unusedVariables false
set_option linter.unusedSimpArgs false

theorem own : ownKnob Tryd.prog.godebug = none := by kernel_rfl
theorem laidOut : laidOutB Tryd.prog = true := by kernel_rfl
theorem byte_of_wf {x : Int} (h : (Lit.int .u8 x).wf = true) : 0 ≤ x ∧ x < 256 := by
  simp [Lit.wf, IntKind.min, IntKind.max, IntKind.signed, IntKind.bits] at h
  exact ⟨by omega, by omega⟩
theorem int_of_wf {x : Int} (h : (Lit.int .i64 x).wf = true) : -9223372036854775808 ≤ x ∧ x ≤ 9223372036854775807 := by
  simp [Lit.wf, IntKind.min, IntKind.max, IntKind.signed, IntKind.bits] at h
  exact ⟨by omega, by omega⟩

theorem bulk_one {H : Type} (d : DataW H) : 1 ≤ Rows.uptoBulk d := by
  cases d with
  | lit l => cases l <;> simp [Rows.uptoBulk]
  | nil => simp [Rows.uptoBulk]
  | ptr d => simp [Rows.uptoBulk]
  | slice elems spare => simp [Rows.uptoBulk]
  | agg parts => simp [Rows.uptoBulk]
  | iface t d => simp [Rows.uptoBulk]
  | map entries => simp [Rows.uptoBulk]
  | held h => simp [Rows.uptoBulk]
theorem bulk_len {H : Type} (l : List (DataW H)) : l.length ≤ Rows.uptoBulkAll l := by
  induction l with
  | nil => simp [Rows.uptoBulkAll]
  | cons x r ih => have := bulk_one x; simp only [Rows.uptoBulkAll, List.length_cons]; omega
theorem Tryd.bytes5 : Tryd.prog.bytesOf 5 = 1 := by kernel_rfl

section
variable {H : Type} {enc : TypeId × Value → H} {W : World}

/-- Bytes that came in, as the walks want them, of whatever length. -/
theorem open_bytes {fuel : Nat} {cs : List Value} {x : DataW H × List MemPlace} (h : DataW.trod enc Tryd.prog W 0 (fun _ => true) true fuel 63 cs = some x) :
    ∃ v bs, cs = [v] ∧ (bs.length ≤ 140737488355328 → Rd W v bs) ∧ ((bs = [] ∧ x.1 = .nil) ∨ ∃ elems spare, x.1 = .slice elems spare ∧ elems.length = bs.length) := by
  rcases open_ints Tryd.underlying63 Tryd.underlying5 (by kernel_rfl) h with ⟨rfl, rfl⟩ | ⟨a, len, cap, zs, rfl, _, hl, hm, hz, rfl, hcell, hwz⟩
  · exact ⟨_, [], rfl, fun _ => Rd.nil W, .inl ⟨rfl, rfl⟩⟩
  · have h2 : (lits (H := H) .u8 (zs.take len)).length = len := by simp only [lits, List.length_map, List.length_take]; simp at hz; omega
    have hbl : ((zs.take len).map Int.toNat).length = len := by simp at hz; simp; omega
    refine ⟨_, (zs.take len).map Int.toNat, rfl, fun hB => ⟨_, _, _, rfl, hbl, hl, ⟨by unfold maxLen at hm; omega, by omega⟩, by simp, ?_, ?_⟩, .inr ⟨_, _, rfl, by rw [h2, hbl]⟩⟩
    · intro y hy
      obtain ⟨z, hz1, rfl⟩ := List.mem_map.1 hy
      have := byte_of_wf (hwz z (List.mem_of_mem_take hz1)); omega
    · intro hp
      simp at hz
      have hc0 := hcell 0 (by omega)
      obtain ⟨b, off, spot⟩ := a
      have hspot : spot = none := by simpa [Addr.add] using World.cell?_spot hc0
      subst hspot
      refine ⟨b, off, rfl, fun i hi => ?_⟩
      have hc := hcell i (by omega)
      have hzi : i < zs.length := by omega
      rw [Addr.add_mid] at hc
      rw [hc]
      have hw := byte_of_wf (hwz (zs[i]) (List.getElem_mem hzi))
      simp only [List.getD_eq_getElem?_getD, List.getElem?_eq_getElem hzi, Option.getD_some, List.getElem?_map, List.getElem?_take, hi, if_true, Option.map_some]
      simp [u8]; omega
/-- Their length, by the reach. -/
theorem reach_bytes {ts : List TypeId} {ds : List (DataW H)} (h : (DataW.weightsEach Tryd.prog ts ds).all (· ≤ reachBytes) = true) {j : Nat} (ht : ts[j]? = some 63) {d : DataW H} (hd : ds[j]? = some d) {bs : List Nat}
    (hx : (bs = [] ∧ d = .nil) ∨ ∃ elems spare, d = .slice elems spare ∧ elems.length = bs.length) : bs.length ≤ 140737488351232 := by
  rcases hx with ⟨rfl, _⟩ | ⟨elems, spare, rfl, he⟩
  · simp
  · have := sized_slice h ht hd Tryd.underlying63
    rw [Tryd.bytes5, Nat.mul_one] at this
    unfold reachBytes at this
    omega
/-- Their length, by the bulk. -/
theorem bulk_bytes {d : DataW H} {bs : List Nat} (hx : (bs = [] ∧ d = .nil) ∨ ∃ elems spare, d = .slice elems spare ∧ elems.length = bs.length) : bs.length + 1 ≤ Rows.uptoBulk d := by
  rcases hx with ⟨rfl, rfl⟩ | ⟨elems, spare, rfl, he⟩
  · simp [Rows.uptoBulk]
  · have := bulk_len elems
    simp only [Rows.uptoBulk]; omega
end
end Go.Proofs.YtdeaciphaaefdaaDoor
namespace Go.Proofs.YtdeaciphaaefdaaDoor
open Go Go.RowKit
set_option linter.unusedVariables false
set_option linter.unusedSimpArgs false
section
variable {H : Type} {enc : TypeId × Value → H} {W : World}

def natOf : Value → Nat
  | .int _ n => n.toNat
  | _ => 0
/-- A digest that came in. -/
theorem open_dig {fuel : Nat} {cs : List Value} {x : DataW H × List MemPlace} (h : DataW.trod enc Tryd.prog W 0 (fun _ => true) true fuel 23 cs = some x) :
    ∃ l : List Nat, cs = l.map u8 ∧ l.length = 32 ∧ ∀ y ∈ l, y < 256 := by
  obtain ⟨xs, m, _, rfl, hl, hn, hc⟩ := DataW.trod_array Tryd.underlying23 h
  rw [show Tryd.prog.cellsOf 23 = 32 from by kernel_rfl] at hl
  rw [show Tryd.prog.cellsOf 5 = 1 from by kernel_rfl] at hc
  have key : ∀ i (hi : i < cs.length), cs[i] = u8 (natOf cs[i]) ∧ natOf cs[i] < 256 := by
    intro i hi
    have h1 := hc i (by omega)
    rw [Nat.mul_one, List.getElem?_eq_getElem (by omega)] at h1
    obtain ⟨n, e, _, hw⟩ := DataW.trod_int Tryd.underlying5 h1
    rw [List.drop_eq_getElem_cons hi, List.take_succ_cons, List.take_zero] at e
    simp only [List.cons.injEq, and_true] at e
    have := byte_of_wf hw
    rw [e]
    refine ⟨?_, ?_⟩
    · simp [u8, natOf]; omega
    · simp [natOf]; omega
  refine ⟨cs.map natOf, ?_, by simp [hl], ?_⟩
  · rw [List.map_map]
    refine List.ext_getElem (by simp) fun i h1 h2 => ?_
    rw [List.getElem_map]
    exact (key i h1).1
  · intro y hy
    obtain ⟨v, hv, rfl⟩ := List.mem_map.1 hy
    obtain ⟨i, hi, rfl⟩ := List.getElem_of_mem hv
    exact (key i hi).2
set_option maxRecDepth 100000 in
theorem open_digv {b0 : Nat} {v : Value} {d : DataW H} {ps : List MemPlace} (hv : Value.okWide Tryd.prog W .any b0 23 v) (h : DataW.Trod enc Tryd.prog W 0 (fun _ => true) true 23 v d ps) :
    ∃ l : List Nat, v = .agg (brow l) ∧ l.length = 32 ∧ ∀ y ∈ l, y < 256 := by
  unfold Value.okWide at hv
  rw [Tryd.underlying23] at hv
  obtain ⟨cs, rfl, _, _⟩ := hv
  obtain ⟨fuel, hf⟩ := h
  obtain ⟨l, e, h1, h2⟩ := open_dig hf
  refine ⟨l, ?_, h1, h2⟩
  simp only [Value.cells] at e
  unfold brow
  rw [← e]
end
end Go.Proofs.YtdeaciphaaefdaaDoor
namespace Go.Proofs.YtdeaciphaaefdaaDoor
open Go.ChangeShapes Go.WideShapes Go.ChangeAt Go.RowKit Go.Deep
set_option linter.unusedVariables false
set_option linter.unusedSimpArgs false
section
variable {H : Type} {enc : TypeId × Value → H} {W : World}

theorem o_bulk_part {d : DataW H} {l : List (DataW H)} (h : d ∈ l) : Rows.uptoBulk d ≤ Rows.uptoBulkAll l := by
  induction l with
  | nil => cases h
  | cons x r ih =>
    simp only [Rows.uptoBulkAll]
    cases List.mem_cons.1 h with
    | inl e => subst e; omega
    | inr e => have := ih e; omega
theorem o_split (cs : List Value) (a n : Nat) : cs.drop a = (cs.drop a).take n ++ cs.drop (a + n) := by
  rw [← List.drop_drop, List.take_append_drop]

/-- Digests that came in. -/
theorem open_digs2 {fuel : Nat} {cs : List Value} {x : DataW H × List MemPlace} (h : DataW.trod enc Tryd.prog W 0 (fun _ => true) true fuel 25 cs = some x) (hB : Rows.uptoBulk x.1 ≤ 1048576) :
    ∃ v ds, cs = [v] ∧ RdD W v ds ∧ ds.length ≤ 1048576 := by
  rcases open_slice Tryd.underlying25 h with ⟨rfl, rfl⟩ | ⟨a, len, cap, m, n, D, Pl, rfl, _, hl, hm, hmm, rfl, hx⟩
  · exact ⟨_, [], rfl, ⟨none, 0, 0, rfl, rfl, Nat.le_refl _, by omega, fun d hd => by simp at hd, fun h => by omega⟩, by simp⟩
  · have hC : Tryd.prog.cellsOf 23 = 32 := by kernel_rfl
    rw [hC] at hx
    simp only [if_true] at hmm
    simp only [Rows.uptoBulk] at hB
    have hcap : cap ≤ 1048576 := by
      have h1 := bulk_len ((List.range len).map D)
      have h2 := bulk_len ((List.range (m - len)).map fun j => D (len + j))
      simp at h1 h2
      omega
    obtain ⟨f, hf⟩ := choose_lt (α := List Nat) (n := len) (p := fun i o => (∀ j v, (o.map u8)[j]? = some v → W.cell? ((a.add (i * 32)).add j) = some v) ∧ o.length = 32 ∧ ∀ y ∈ o, y < 256) (by
      intro i hi
      obtain ⟨cs', h1, h2⟩ := hx i (by omega)
      obtain ⟨l, rfl, hl1, hl2⟩ := open_dig h2
      obtain ⟨_, hlen, hc⟩ := World.cells?_some h1
      refine ⟨l, fun j v hv => ?_, hl1, hl2⟩
      have hj := (List.getElem?_eq_some_iff.1 hv).1
      have := hc j (by rw [List.length_map] at hj; omega)
      rw [this, ← hv, List.getElem?_eq_getElem hj])
    refine ⟨_, (List.range len).map f, rfl, ⟨some a, len, cap, rfl, by simp, hl, by omega, ?_, ?_⟩, by simp; omega⟩
    · intro d hd
      obtain ⟨i, hi, rfl⟩ := List.mem_map.1 hd
      exact (hf i (List.mem_range.1 hi)).2
    · intro hp
      obtain ⟨b, off, spot⟩ := a
      have h0 := hf 0 hp
      have hc0 := h0.1 0 (u8 ((f 0).getD 0 0)) (by rw [List.getElem?_map, List.getD_eq_getElem?_getD, List.getElem?_eq_getElem (by omega)]; rfl)
      have hspot : spot = none := by simpa [Addr.add] using World.cell?_spot hc0
      subst hspot
      refine ⟨b, off, rfl, fun i hi j v hv => ?_⟩
      have e9 : ((List.range len).map f).getD i [] = f i := by simp [List.getD_eq_getElem?_getD, hi]
      rw [e9] at hv
      have := (hf i hi).1 j v hv
      rw [Addr.add_mid, Addr.add_mid] at this
      exact this

/-- A question that came in. -/
theorem open_ask {fuel : Nat} {cs : List Value} {x : DataW H × List MemPlace} (h : DataW.trod enc Tryd.prog W 0 (fun _ => true) true fuel 27 cs = some x) (hB : Rows.uptoBulk x.1 ≤ 1048576) :
    ∃ (q : AskD) (pv : Value), cs = askC q pv ∧ OkA W q pv := by
  obtain ⟨xs, n, _, rfl, hl, hlen, hf⟩ := DataW.trod_struct Tryd.underlying27 h
  rw [show Tryd.prog.cellsOf 27 = 68 from by kernel_rfl] at hl
  match xs, hlen with
  | [y0, y1, y2, y3, y4, y5], _ =>
    have c3 : Tryd.prog.cellsOf 3 = 1 := by kernel_rfl
    have cd : Tryd.prog.cellsOf 23 = 32 := by kernel_rfl
    have cu : Tryd.prog.cellsOf 24 = 1 := by kernel_rfl
    have ck : Tryd.prog.cellsOf 25 = 1 := by kernel_rfl
    have f0 : DataW.trod enc Tryd.prog W 0 (fun _ => true) true n 3 ((cs.drop 0).take 1) = some y0 := by have this : DataW.trod enc Tryd.prog W 0 (fun _ => true) true n 3 ((cs.drop 0).take (Tryd.prog.cellsOf 3)) = some y0 := hf 0 _ rfl; rw [c3] at this; exact this
    have f1 : DataW.trod enc Tryd.prog W 0 (fun _ => true) true n 23 ((cs.drop 1).take 32) = some y1 := by have this : DataW.trod enc Tryd.prog W 0 (fun _ => true) true n 23 ((cs.drop 1).take (Tryd.prog.cellsOf 23)) = some y1 := hf 1 _ rfl; rw [cd] at this; exact this
    have f2 : DataW.trod enc Tryd.prog W 0 (fun _ => true) true n 24 ((cs.drop 33).take 1) = some y2 := by have this : DataW.trod enc Tryd.prog W 0 (fun _ => true) true n 24 ((cs.drop 33).take (Tryd.prog.cellsOf 24)) = some y2 := hf 2 _ rfl; rw [cu] at this; exact this
    have f3 : DataW.trod enc Tryd.prog W 0 (fun _ => true) true n 24 ((cs.drop 34).take 1) = some y3 := by have this : DataW.trod enc Tryd.prog W 0 (fun _ => true) true n 24 ((cs.drop 34).take (Tryd.prog.cellsOf 24)) = some y3 := hf 3 _ rfl; rw [cu] at this; exact this
    have f4 : DataW.trod enc Tryd.prog W 0 (fun _ => true) true n 25 ((cs.drop 35).take 1) = some y4 := by have this : DataW.trod enc Tryd.prog W 0 (fun _ => true) true n 25 ((cs.drop 35).take (Tryd.prog.cellsOf 25)) = some y4 := hf 4 _ rfl; rw [ck] at this; exact this
    have f5 : DataW.trod enc Tryd.prog W 0 (fun _ => true) true n 23 ((cs.drop 36).take 32) = some y5 := by have this : DataW.trod enc Tryd.prog W 0 (fun _ => true) true n 23 ((cs.drop 36).take (Tryd.prog.cellsOf 23)) = some y5 := hf 5 _ rfl; rw [cd] at this; exact this
    simp only [List.map_cons, List.map_nil, Rows.uptoBulk, Rows.uptoBulkAll] at hB
    obtain ⟨z, e0, _, w0⟩ := DataW.trod_int Tryd.underlying3 f0
    obtain ⟨l, e1, l1, l2⟩ := open_dig f1
    obtain ⟨i, e2, _, w2⟩ := DataW.trod_int Tryd.underlying24 f2
    obtain ⟨m, e3, _, w3⟩ := DataW.trod_int Tryd.underlying24 f3
    obtain ⟨dv, ds, e4, hds, hdl⟩ := open_digs2 f4 (by omega)
    obtain ⟨r, e5, r1, r2⟩ := open_dig f5
    have hi : 0 ≤ i ∧ i < 18446744073709551616 := by
      simp [Lit.wf, IntKind.min, IntKind.max, IntKind.signed, IntKind.bits] at w2
      omega
    have hm : 0 ≤ m ∧ m < 18446744073709551616 := by
      simp [Lit.wf, IntKind.min, IntKind.max, IntKind.signed, IntKind.bits] at w3
      omega
    refine ⟨⟨z, l, i.toNat, m.toNat, ds, r⟩, dv, ?_, ⟨int_of_wf w0, ⟨l1, l2⟩, by show i.toNat < _; omega, by show m.toNat < _; omega, hds, hdl, ⟨r1, r2⟩⟩⟩
    have hd : cs.drop 68 = [] := List.drop_eq_nil_of_le (by omega)
    have this := o_split cs 0 1
    rw [e0, o_split cs 1 32, e1, o_split cs 33 1, e2, o_split cs 34 1, e3, o_split cs 35 1, e4, o_split cs 36 32, e5, hd, List.drop_zero] at this
    rw [this]
    simp [askC, Int.toNat_of_nonneg hi.1, Int.toNat_of_nonneg hm.1]

set_option maxRecDepth 100000 in
theorem open_askv {b0 : Nat} {v : Value} {d : DataW H} {ps : List MemPlace} (hv : Value.okWide Tryd.prog W .any b0 27 v) (h : DataW.Trod enc Tryd.prog W 0 (fun _ => true) true 27 v d ps) (hB : Rows.uptoBulk d ≤ 1048576) :
    ∃ (q : AskD) (pv : Value), v = .agg (askC q pv).toArray ∧ OkA W q pv := by
  unfold Value.okWide at hv
  rw [Tryd.underlying27] at hv
  obtain ⟨cs, rfl, _, _⟩ := hv
  obtain ⟨fuel, hf⟩ := h
  obtain ⟨q, pv, e, h1⟩ := open_ask hf hB
  refine ⟨q, pv, ?_, h1⟩
  simp only [Value.cells] at e
  rw [← e]
end
end Go.Proofs.YtdeaciphaaefdaaDoor
