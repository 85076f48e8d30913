import Derived.Test.YtbljofojeagdkaaDoorMPart
namespace Go.Proofs.YtbljofojeagdkaaDoor
open Go.RowKit Go.BigFrame
set_option linter.unusedVariables false
set_option linter.unusedSimpArgs false

def opD (o : Option (List Nat)) : List Nat := o.getD zD
def opE (o : Option (List Nat)) : Nat := if o.isSome then 0 else 10
theorem RdD.nil_len {w : World} {ao : Option Addr} {len cap : Nat} {ds : List (List Nat)} (h : RdD w (.slice ao len cap) ds) : ds.length = len := by
  obtain ⟨_, _, _, e, h1, _⟩ := h
  cases e; exact h1

theorem opD_dg {o : Option (List Nat)} (h : ∀ d, o = some d → Dg d) : Dg (opD o) := by
  cases o with
  | none => exact zD_dg
  | some d => exact h d rfl
theorem over_l (z : Int) (O : Option (List Nat)) (x : List Nat) (w : World) (hz : -9223372036854775808 ≤ z ∧ z ≤ 9223372036854775807) (hw : widthB z = true) (hO : ∀ d, O = some d → Dg d ∧ formB z d = true) (hx : Dg x) (hxf : formB z x = true) (hT : Tabs w) :
    Calls Tryd.prog 45 #[.int .i64 (opE O), .int .i64 z, .agg (brow (opD O)), .agg (brow x)] w fun e w' => e = .returned (.tuple #[.agg (brow (opD (O.map (fun y => nodS z y x)))), .int .i64 (opE (O.map (fun y => nodS z y x)))]) ∧ Kept [] w w' := by
  cases O with
  | none => exact over_bad 10 z _ _ w (by decide)
  | some d => exact over_ok z d x w hz hw (hO d rfl).1 hx (hO d rfl).2 hxf hT
theorem over_r (z : Int) (O : Option (List Nat)) (x : List Nat) (w : World) (hz : -9223372036854775808 ≤ z ∧ z ≤ 9223372036854775807) (hw : widthB z = true) (hO : ∀ d, O = some d → Dg d ∧ formB z d = true) (hx : Dg x) (hxf : formB z x = true) (hT : Tabs w) :
    Calls Tryd.prog 45 #[.int .i64 (opE O), .int .i64 z, .agg (brow x), .agg (brow (opD O))] w fun e w' => e = .returned (.tuple #[.agg (brow (opD (O.map (fun y => nodS z x y)))), .int .i64 (opE (O.map (fun y => nodS z x y)))]) ∧ Kept [] w w' := by
  cases O with
  | none => exact over_bad 10 z _ _ w (by decide)
  | some d => exact over_ok z x d w hz hw hx (hO d rfl).1 hxf (hO d rfl).2 hT

set_option maxRecDepth 100000 in
set_option maxHeartbeats 2000000 in
theorem climb_any (z : Int) (leaf : List Nat) (hz : -9223372036854775808 ≤ z ∧ z ≤ 9223372036854775807) (hw : widthB z = true) (hl : Dg leaf) (hf : formB z leaf = true) : ∀ (rp : List (List Nat)) (i n : Nat) (pv : Value) (w : World), i < n → n < 18446744073709551616 → RdD w pv rp.reverse → (∀ x ∈ rp, formB z x = true) → Tabs w →
    Calls Tryd.prog 26 #[.int .i64 z, .agg (brow leaf), .int .u64 i, .int .u64 n, pv] w fun e w' => e = .returned (.tuple #[.agg (brow (opD (clD z leaf rp i n))), .int .i64 (opE (clD z leaf rp i n))]) ∧ Kept [] w w' := by
  intro rp
  induction rp with
  | nil =>
    intro i n pv w hi hn hp hpf hT
    obtain ⟨ao, len, cap, rfl, h1, h2, h3, h4, h5⟩ := hp
    have hlen : len = 0 := by simpa using h1.symm
    subst hlen
    clear h1 h2 h3 h4 h5 hpf hT
    have hll := hl.1
    have HL := hide hl
    go_enter Tryd.func26, Tryd.ntmps26
    have HGL := hide (((Kept.refl [] (w.alloc (.cells (brow leaf) 23))).alloc (.cells (zb 32) 23)).heap (heap_alloc_new w (.cells (brow leaf) 23)) (by simp))
    have HGZ := hide (alloc_at w (.cells (brow leaf) 23) (.cells (zb 32) 23))
    have HK0 := hide (((Kept.refl [] w).alloc (.cells (brow leaf) 23)).alloc (.cells (zb 32) 23))
    by_cases h1 : n = 1
    · have h1' : ((n : Int) == 1) = true := by simp; omega
      have HC := hide (by unfold clD; rw [if_pos h1]; exact ⟨rfl, rfl⟩ : opD (clD z leaf [] i n) = leaf ∧ opE (clD z leaf [] i n) = 0)
      go_wp2_with (first
        | (refine wpList_load_mid rfl 23 _ rfl w.heap.size 0 rfl (leaf.map u8) _ (range_row (unhide HGL)) Tryd.underlying23 rfl (by rw [List.length_map, hll]; exact Tryd.size_dig) ?_)
        | (rw [zb32]; refine wpList_store_row rfl 23 _ _ rfl (w.heap.size + 1) (brow leaf) rfl rfl _ (zb 32) (unhide HGZ) (by rw [brow_size, hll]; exact Tryd.size_dig) (by rw [zb_size, brow_size, hll]) (brow_one _) ?_))
      rw [(unhide HC).1, (unhide HC).2]
      refine bodyPost_ret (v := .tuple #[.agg (brow leaf), .int .i64 0]) ?_ rfl ⟨rfl, (unhide HK0).setRow (Or.inr (by omega)) _⟩
      exact results_cell_tmp rfl _ _ (w.heap.size + 1) _ (brow leaf) (0, 0) _ rfl (setRow_heap _ _ _ _ _ _ (unhide HGZ)) Tryd.underlying23 rfl (by rw [brow_size, hll]; exact Tryd.size_dig) _ rfl
    · have h1' : ((n : Int) == 1) = false := by simp; omega
      have HC := hide (by unfold clD; rw [if_neg h1]; exact ⟨rfl, rfl⟩ : opD (clD z leaf [] i n) = zD ∧ opE (clD z leaf [] i n) = 10)
      go_wp2_with (rw [zb32]; refine wpList_store_row rfl 23 _ _ rfl (w.heap.size + 1) (zb 32) rfl rfl _ (zb 32) (unhide HGZ) (by rw [zb_size]; exact Tryd.size_dig) rfl (brow_one _) ?_)
      rw [(unhide HC).1, (unhide HC).2]
      refine bodyPost_ret (v := .tuple #[.agg (zb 32), .int .i64 10]) ?_ rfl ⟨rfl, (unhide HK0).setRow (Or.inr (by omega)) _⟩
      exact results_cell_tmp rfl _ _ (w.heap.size + 1) _ (zb 32) (0, 0) _ rfl (setRow_heap _ _ _ _ _ _ (unhide HGZ)) Tryd.underlying23 rfl (by rw [zb_size]; exact Tryd.size_dig) _ rfl
  | cons x r ih =>
    intro i n pv w hi hn hp hpf hT
    have HP := hide hp
    obtain ⟨ao, len, cap, rfl, h1, h2, h3, h4, h5⟩ := hp
    have hlen : len = r.length + 1 := by rw [← h1]; simp
    subst hlen
    clear h1 h4 h5
    have HT := hide hT
    have HPF := hide hpf
    have hll := hl.1
    have HX := hide ((unhide HP).dg (show x ∈ (x :: r).reverse by simp))
    have hxl := (unhide HX).1
    clear hT hpf
    have hfl := (opD_dg (fun d hd => (clD_ok hw hl hf (x :: r) i n d hd).1)).1
    obtain ⟨F, hF⟩ : ∃ F, clD z leaf (x :: r) i n = F := ⟨_, rfl⟩
    have HFF := hide hF
    rw [hF] at hfl ⊢
    clear hF
    go_enter Tryd.func26, Tryd.ntmps26
    have HGL := hide (((Kept.refl [] (w.alloc (.cells (brow leaf) 23))).alloc (.cells (zb 32) 23)).heap (heap_alloc_new w (.cells (brow leaf) 23)) (by simp))
    have HGZ := hide (alloc_at w (.cells (brow leaf) 23) (.cells (zb 32) 23))
    have HK0 := hide (((Kept.refl [] w).alloc (.cells (brow leaf) 23)).alloc (.cells (zb 32) 23))
    by_cases h1 : n = 1
    · have h1' : ((n : Int) == 1) = true := by simp; omega
      have hne : (((r.length : Int) + 1) != 0) = true := by simp; omega
      have HC := hide (by rw [← unhide HFF]; unfold clD; rw [if_pos h1]; exact ⟨rfl, rfl⟩ : opD F = zD ∧ opE F = 10)
      go_wp2_with (rw [zb32]; refine wpList_store_row rfl 23 _ _ rfl (w.heap.size + 1) (zb 32) rfl rfl _ (zb 32) (unhide HGZ) (by rw [zb_size]; exact Tryd.size_dig) rfl (brow_one _) ?_)
      rw [(unhide HC).1, (unhide HC).2]
      refine bodyPost_ret (v := .tuple #[.agg (zb 32), .int .i64 10]) ?_ rfl ⟨rfl, (unhide HK0).setRow (Or.inr (by omega)) _⟩
      exact results_cell_tmp rfl _ _ (w.heap.size + 1) _ (zb 32) (0, 0) _ rfl (setRow_heap _ _ _ _ _ _ (unhide HGZ)) Tryd.underlying23 rfl (by rw [zb_size]; exact Tryd.size_dig) _ rfl
    · have h1' : ((n : Int) == 1) = false := by simp; omega
      have hne : (((r.length : Int) + 1) == 0) = false := by simp; omega
      go_wp2_with fail
      refine Calls.mono (parted_any _ (x :: r).reverse r x _ ((unhide HP).old (unhide HK0)) (by simp)) ?_
      rintro e w1 ⟨u1, rfl, d1, k1⟩
      have HD1 := hide d1
      have HG1 := hide (k1.heap (unhide HGL) (by simp))
      have HZ1 := hide (k1.heap (unhide HGZ) (by simp))
      have HK1 := hide ((unhide HK0).trans k1 (by simp))
      obtain ⟨a1, n1, c1, rfl, _⟩ := id d1
      clear d1 k1 HGL HGZ
      have HXW := hide (setRow_heap (w1.alloc (.cells (zb 32) 23)) w1.heap.size (zb 32) (brow x) 23 (0, 0) (heap_alloc_new _ _))
      have k2 := ((Kept.refl [] w1).alloc (.cells (zb 32) 23)).setRow (g := w1.heap.size) (Or.inr (Nat.le_refl _)) (brow x)
      have HSX := hide (by rw [brow_size, hxl]; exact Tryd.size_dig : (Tryd.prog.info? 23).map (·.size) = some (brow x).size)
      have HSXL := hide (by rw [List.length_map, hxl]; exact Tryd.size_dig : (Tryd.prog.info? 23).map (·.size) = some (x.map u8).length)
      have HSL := hide (by rw [List.length_map, hll]; exact Tryd.size_dig : (Tryd.prog.info? 23).map (·.size) = some (leaf.map u8).length)
      have HD2 := hide ((unhide HD1).old k2)
      have HG2 := hide (k2.heap (unhide HG1) (by simp))
      have HZ2 := hide (k2.heap (unhide HZ1) (by simp))
      have HK2 := hide ((unhide HK1).trans k2 (by simp))
      clear k2 HD1 HG1 HZ1
      go_wp2_with (rw [zb32]; refine wpList_store_row rfl 23 _ _ rfl w1.heap.size (brow x) rfl rfl _ (zb 32) (heap_alloc_new _ _) (unhide HSX) (by rw [zb_size, brow_size, hxl]) (brow_one _) ?_)
      refine Calls.mono (split_any n _ (by omega) hn) ?_
      rintro e w3 ⟨rfl, k3⟩
      have HX3 := hide (k3.heap (unhide HXW) (by simp))
      have HD3 := hide ((unhide HD2).old k3)
      have HG3 := hide (k3.heap (unhide HG2) (by simp))
      have HZ3 := hide (k3.heap (unhide HZ2) (by simp))
      have HK3 := hide ((unhide HK2).trans k3 (by simp))
      clear k3 HXW HD2 HG2 HZ2
      have hk1 := spl_pos n
      have hk2 := spl_lt (n := n) (by omega)
      have HK12 := hide (unhide HK1).size
      have HXF := hide (unhide HPF x (by simp))
      have HRF := hide (fun y hy => unhide HPF y (by simp [hy]) : ∀ y ∈ r, formB z y = true)
      by_cases hik : i < spl n
      · have hik' : (i : Int) < (spl n : Nat) := by omega
        have HC := hide (by rw [← unhide HFF]; conv => lhs; unfold clD; rw [if_neg h1, if_pos hik] : F = (clD z leaf r i (spl n)).map (fun y => nodS z y x))
        have IH := fun (w' : World) (h' : RdD w' (.slice a1 n1 c1) r.reverse) (t' : Tabs w') => ih i (spl n) (.slice a1 n1 c1) w' hik (by omega) h' (unhide HRF) t'
        have HOK := hide (clD_ok hw hl hf r i (spl n))
        generalize clD z leaf r i (spl n) = O at HC IH HOK
        go_wp2_with (refine wpList_load_mid rfl 23 _ rfl w.heap.size 0 rfl (leaf.map u8) _ (range_row (unhide HG3)) Tryd.underlying23 rfl (unhide HSL) ?_)
        refine Calls.mono (IH _ (unhide HD3) ((unhide HT).k (unhide HK3))) ?_
        rintro e w4 ⟨rfl, k4⟩
        have HX4 := hide (k4.heap (unhide HX3) (by simp))
        have HZ4 := hide (k4.heap (unhide HZ3) (by simp))
        have HK4 := hide ((unhide HK3).trans k4 (by simp))
        clear k4 HX3 HD3 HG3 HZ3 IH
        have hol := (opD_dg (fun d hd => (unhide HOK d hd).1)).1
        have HSO := hide (by rw [brow_size, hol]; exact Tryd.size_dig : (Tryd.prog.info? 23).map (·.size) = some (brow (opD O)).size)
        have HSOL := hide (by rw [List.length_map, hol]; exact Tryd.size_dig : (Tryd.prog.info? 23).map (·.size) = some ((opD O).map u8).length)
        have HNW := hide (setRow_heap (w4.alloc (.cells (zb 32) 23)) w4.heap.size (zb 32) (brow (opD O)) 23 (0, 0) (heap_alloc_new _ _))
        have k5 := ((Kept.refl [] w4).alloc (.cells (zb 32) 23)).setRow (g := w4.heap.size) (Or.inr (Nat.le_refl _)) (brow (opD O))
        have HX5 := hide (k5.heap (unhide HX4) (by simp))
        have HZ5 := hide (k5.heap (unhide HZ4) (by simp))
        have HK5 := hide ((unhide HK4).trans k5 (by simp))
        clear k5 HX4 HZ4
        go_wp2_with (first
          | (rw [zb32]; refine wpList_store_row rfl 23 _ _ rfl w4.heap.size (brow (opD O)) rfl rfl _ (zb 32) (heap_alloc_new _ _) (unhide HSO) (by rw [zb_size, brow_size, hol]) (brow_one _) ?_)
          | (refine wpList_load_mid rfl 23 _ rfl w4.heap.size 0 rfl ((opD O).map u8) _ (range_row (unhide HNW)) Tryd.underlying23 rfl (unhide HSOL) ?_)
          | (refine wpList_load_mid rfl 23 _ rfl w1.heap.size 0 rfl (x.map u8) _ (range_row (unhide HX5)) Tryd.underlying23 rfl (unhide HSXL) ?_))
        refine Calls.mono (over_l z O x _ hz hw (unhide HOK) (unhide HX) (unhide HXF) ((unhide HT).k (unhide HK5))) ?_
        rintro e w6 ⟨rfl, k6⟩
        rw [← unhide HC]
        have HZ6 := hide (k6.heap (unhide HZ5) (by simp))
        have HK6 := hide ((unhide HK5).trans k6 (by simp))
        clear k6 HX5 HZ5 HNW
        go_wp2_with (refine wpList_store_row rfl 23 _ _ rfl (w.heap.size + 1) (brow (opD F)) rfl rfl _ (zb 32) (unhide HZ6) (by rw [brow_size, hfl]; exact Tryd.size_dig) (by rw [zb_size, brow_size, hfl]) (brow_one _) ?_)
        refine bodyPost_ret (v := .tuple #[.agg (brow (opD F)), .int .i64 (opE F)]) ?_ rfl ⟨rfl, (unhide HK6).setRow (Or.inr (by omega)) _⟩
        exact results_cell_tmp rfl _ _ (w.heap.size + 1) _ (brow (opD F)) (0, 0) _ rfl (setRow_heap _ _ _ _ _ _ (unhide HZ6)) Tryd.underlying23 rfl (by rw [brow_size, hfl]; exact Tryd.size_dig) _ rfl
      · have hik' : ¬ (i : Int) < (spl n : Nat) := by omega
        have hs1 : ((i : Int) - (spl n : Nat)) = ((i - spl n : Nat) : Int) := by omega
        have hs2 : ((n : Int) - (spl n : Nat)) = ((n - spl n : Nat) : Int) := by omega
        have hb1 : ((spl n : Nat) : Int) ≤ i := by omega
        have hb2 : ((spl n : Nat) : Int) ≤ n := by omega
        have HC := hide (by rw [← unhide HFF]; conv => lhs; unfold clD; rw [if_neg h1, if_neg hik] : F = (clD z leaf r (i - spl n) (n - spl n)).map (fun y => nodS z x y))
        have IH := fun (w' : World) (h' : RdD w' (.slice a1 n1 c1) r.reverse) (t' : Tabs w') => ih (i - spl n) (n - spl n) (.slice a1 n1 c1) w' (by omega) (by omega) h' (unhide HRF) t'
        have HOK := hide (clD_ok hw hl hf r (i - spl n) (n - spl n))
        generalize clD z leaf r (i - spl n) (n - spl n) = O at HC IH HOK
        go_wp2_with (refine wpList_load_mid rfl 23 _ rfl w.heap.size 0 rfl (leaf.map u8) _ (range_row (unhide HG3)) Tryd.underlying23 rfl (unhide HSL) ?_)
        refine Calls.mono (IH _ (unhide HD3) ((unhide HT).k (unhide HK3))) ?_
        rintro e w4 ⟨rfl, k4⟩
        have HX4 := hide (k4.heap (unhide HX3) (by simp))
        have HZ4 := hide (k4.heap (unhide HZ3) (by simp))
        have HK4 := hide ((unhide HK3).trans k4 (by simp))
        clear k4 HX3 HD3 HG3 HZ3 IH
        have hol := (opD_dg (fun d hd => (unhide HOK d hd).1)).1
        have HSO := hide (by rw [brow_size, hol]; exact Tryd.size_dig : (Tryd.prog.info? 23).map (·.size) = some (brow (opD O)).size)
        have HSOL := hide (by rw [List.length_map, hol]; exact Tryd.size_dig : (Tryd.prog.info? 23).map (·.size) = some ((opD O).map u8).length)
        have HNW := hide (setRow_heap (w4.alloc (.cells (zb 32) 23)) w4.heap.size (zb 32) (brow (opD O)) 23 (0, 0) (heap_alloc_new _ _))
        have k5 := ((Kept.refl [] w4).alloc (.cells (zb 32) 23)).setRow (g := w4.heap.size) (Or.inr (Nat.le_refl _)) (brow (opD O))
        have HX5 := hide (k5.heap (unhide HX4) (by simp))
        have HZ5 := hide (k5.heap (unhide HZ4) (by simp))
        have HK5 := hide ((unhide HK4).trans k5 (by simp))
        clear k5 HX4 HZ4
        go_wp2_with (first
          | (rw [zb32]; refine wpList_store_row rfl 23 _ _ rfl w4.heap.size (brow (opD O)) rfl rfl _ (zb 32) (heap_alloc_new _ _) (unhide HSO) (by rw [zb_size, brow_size, hol]) (brow_one _) ?_)
          | (refine wpList_load_mid rfl 23 _ rfl w4.heap.size 0 rfl ((opD O).map u8) _ (range_row (unhide HNW)) Tryd.underlying23 rfl (unhide HSOL) ?_)
          | (refine wpList_load_mid rfl 23 _ rfl w1.heap.size 0 rfl (x.map u8) _ (range_row (unhide HX5)) Tryd.underlying23 rfl (unhide HSXL) ?_))
        refine Calls.mono (over_r z O x _ hz hw (unhide HOK) (unhide HX) (unhide HXF) ((unhide HT).k (unhide HK5))) ?_
        rintro e w6 ⟨rfl, k6⟩
        rw [← unhide HC]
        have HZ6 := hide (k6.heap (unhide HZ5) (by simp))
        have HK6 := hide ((unhide HK5).trans k6 (by simp))
        clear k6 HX5 HZ5 HNW
        go_wp2_with (refine wpList_store_row rfl 23 _ _ rfl (w.heap.size + 1) (brow (opD F)) rfl rfl _ (zb 32) (unhide HZ6) (by rw [brow_size, hfl]; exact Tryd.size_dig) (by rw [zb_size, brow_size, hfl]) (brow_one _) ?_)
        refine bodyPost_ret (v := .tuple #[.agg (brow (opD F)), .int .i64 (opE F)]) ?_ rfl ⟨rfl, (unhide HK6).setRow (Or.inr (by omega)) _⟩
        exact results_cell_tmp rfl _ _ (w.heap.size + 1) _ (brow (opD F)) (0, 0) _ rfl (setRow_heap _ _ _ _ _ _ (unhide HZ6)) Tryd.underlying23 rfl (by rw [brow_size, hfl]; exact Tryd.size_dig) _ rfl
end Go.Proofs.YtbljofojeagdkaaDoor
