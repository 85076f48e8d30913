import Derived.Test.YtbljofojeagdkaaDoorMBoth
namespace Go.Proofs.YtbljofojeagdkaaDoor
open Go.RowKit Go.BigFrame
set_option linter.unusedVariables false
set_option linter.unusedSimpArgs false

theorem opP_dg {o : Option (List Nat × List Nat)} (h : ∀ d, o = some d → Dg d.1 ∧ Dg d.2) : Dg (opP o).1 ∧ Dg (opP o).2 := by
  cases o with
  | none => exact ⟨zD_dg, zD_dg⟩
  | some d => exact h d rfl
theorem pw_ranges {w : World} {g : Nat} {t : TypeId} {fr : Nat × Nat} {d : List Nat × List Nat} (h : w.heap[g]? = some (.cells (pw d) t fr)) (h1 : d.1.length = 32) : w.rangeAt g 0 (d.1.map u8) ∧ w.rangeAt g 32 (d.2.map u8) := by
  unfold pw at h
  exact ⟨a_mid (n := 0) [] _ _ (by simpa using h) rfl, a_mid (n := 32) (d.1.map u8) (d.2.map u8) [] (by simpa using h) (by simp [h1])⟩
theorem opE_map (O : Option (List Nat × List Nat)) (f : List Nat × List Nat → List Nat) : opE (O.map f) = opF O := by cases O <;> rfl
theorem opD_fst (O : Option (List Nat × List Nat)) : opD (O.map (fun p => p.1)) = (opP O).1 := by cases O <;> rfl
theorem opD_snd (O : Option (List Nat × List Nat)) : opD (O.map (fun p => p.2)) = (opP O).2 := by cases O <;> rfl

theorem over_sl (z : Int) (O : Option (List Nat × List Nat)) (x : List Nat) (w : World) (hz : -9223372036854775808 ≤ z ∧ z ≤ 9223372036854775807) (hw : widthB z = true) (hO : ∀ d, O = some d → (Dg d.1 ∧ formB z d.1 = true) ∧ (Dg d.2 ∧ formB z d.2 = true)) (hx : Dg x) (hxf : formB z x = true) (hT : Tabs w) :
    Calls Tryd.prog 45 #[.int .i64 (opF O), .int .i64 z, .agg (brow (opP O).2), .agg (brow x)] w fun e w' => e = .returned (.tuple #[.agg (brow (opD (O.map (fun y => nodS z y.2 x)))), .int .i64 (opF O)]) ∧ Kept [] w w' := by
  cases O with
  | none => exact over_bad 10 z _ _ w (by decide)
  | some d => exact over_ok z d.2 x w hz hw (hO d rfl).2.1 hx (hO d rfl).2.2 hxf hT
theorem over_rf (z : Int) (O : Option (List Nat × List Nat)) (x : List Nat) (w : World) (hz : -9223372036854775808 ≤ z ∧ z ≤ 9223372036854775807) (hw : widthB z = true) (hO : ∀ d, O = some d → (Dg d.1 ∧ formB z d.1 = true) ∧ (Dg d.2 ∧ formB z d.2 = true)) (hx : Dg x) (hxf : formB z x = true) (hT : Tabs w) :
    Calls Tryd.prog 45 #[.int .i64 (opF O), .int .i64 z, .agg (brow x), .agg (brow (opP O).1)] w fun e w' => e = .returned (.tuple #[.agg (brow (opD (O.map (fun y => nodS z x y.1)))), .int .i64 (opF O)]) ∧ Kept [] w w' := by
  cases O with
  | none => exact over_bad 10 z _ _ w (by decide)
  | some d => exact over_ok z x d.1 w hz hw hx (hO d rfl).1.1 hxf (hO d rfl).1.2 hT
theorem over_rs (z : Int) (O : Option (List Nat × List Nat)) (x : List Nat) (w : World) (hz : -9223372036854775808 ≤ z ∧ z ≤ 9223372036854775807) (hw : widthB z = true) (hO : ∀ d, O = some d → (Dg d.1 ∧ formB z d.1 = true) ∧ (Dg d.2 ∧ formB z d.2 = true)) (hx : Dg x) (hxf : formB z x = true) (hT : Tabs w) :
    Calls Tryd.prog 45 #[.int .i64 (opF O), .int .i64 z, .agg (brow x), .agg (brow (opP O).2)] w fun e w' => e = .returned (.tuple #[.agg (brow (opD (O.map (fun y => nodS z x y.2)))), .int .i64 (opF O)]) ∧ Kept [] w w' := by
  cases O with
  | none => exact over_bad 10 z _ _ w (by decide)
  | some d => exact over_ok z x d.2 w hz hw hx (hO d rfl).2.1 hxf (hO d rfl).2.2 hT
theorem opD_map_dg (O : Option (List Nat × List Nat)) (f : List Nat × List Nat → List Nat) (h : ∀ y, Dg (f y)) : Dg (opD (O.map f)) := by
  cases O with
  | none => exact zD_dg
  | some d => exact h d

set_option maxRecDepth 100000 in
set_option maxHeartbeats 2000000 in
theorem climbBoth_any (z : Int) (old : List Nat) (hz : -9223372036854775808 ≤ z ∧ z ≤ 9223372036854775807) (hw : widthB z = true) (ho : Dg old) (hf : formB z old = true) : ∀ (rp : List (List Nat)) (m n : Nat) (b : Bool) (pv : Value) (w : World), 1 ≤ m → m ≤ n → n < 18446744073709551616 → RdD w pv rp.reverse → (∀ x ∈ rp, formB z x = true) → Tabs w →
    Calls Tryd.prog 30 #[.int .i64 z, .int .u64 m, .int .u64 n, .agg (brow old), .bool b, pv] w fun e w' => e = .returned (.tuple #[.agg (pw (opP (twD z old rp m n b))), .int .i64 (opF (twD z old rp m n b))]) ∧ Kept [] w w' := by
  intro rp
  induction rp with
  | nil =>
    intro m n b pv w hm1 hmn hn hp hpf hT
    have HP := hide hp
    obtain ⟨ao, len, cap, rfl, h1, h2, h3, h4, h5⟩ := hp
    have hlen : len = 0 := by simpa using h1.symm
    subst hlen
    clear h1 h2 h3 h4 h5 hpf hT
    have hol := ho.1
    have HO := hide ho
    have HSL := hide (by rw [List.length_map, hol]; exact Tryd.size_dig : (Tryd.prog.info? 23).map (·.size) = some (old.map u8).length)
    have HTW := hide (fun d hd => twD_ok hw ho hf [] m n b d (by simp) hd)
    obtain ⟨F, hF⟩ : ∃ F, twD z old [] m n b = F := ⟨_, rfl⟩
    rw [hF] at HTW
    have HFF := hide hF
    rw [hF]
    clear hF
    have hdg := opP_dg (o := F) (fun d hd => ⟨(unhide HTW d hd).1.1, (unhide HTW d hd).2.1⟩)
    have hFs := pw_size hdg.1.1 hdg.2.1
    have HSF := hide (by rw [hFs]; exact Tryd.size_roots : (Tryd.prog.info? 65).map (·.size) = some (pw (opP F)).size)
    clear hdg
    go_enter Tryd.func30, Tryd.ntmps30
    have HGL := hide (((Kept.refl [] (w.alloc (.cells (brow old) 23))).alloc (.cells (zb 64) 65)).heap (heap_alloc_new w (.cells (brow old) 23)) (by simp))
    have HGZ := hide (alloc_at w (.cells (brow old) 23) (.cells (zb 64) 65))
    have HK0 := hide (((Kept.refl [] w).alloc (.cells (brow old) 23)).alloc (.cells (zb 64) 65))
    by_cases h1 : m = n
    · have h1' : ((m : Int) == n) = true := by simp; omega
      subst h1
      go_wp2_with (refine wpList_load_mid rfl 23 _ rfl w.heap.size 0 rfl (old.map u8) _ (range_row (unhide HGL)) Tryd.underlying23 rfl (unhide HSL) ?_)
      rw [zb64]
      refine Calls.mono (lowest_any old b _ [] _ (unhide HO) ((unhide HP).old (unhide HK0)) z m) ?_
      rintro e w1 ⟨rfl, k1⟩
      rw [List.reverse_nil, unhide HFF]
      have HZ1 := hide (k1.heap (unhide HGZ) (by simp))
      have HK1 := hide ((unhide HK0).trans k1 (by simp))
      clear k1
      go_wp2_with (refine wpList_store_row rfl 65 _ _ rfl (w.heap.size + 1) (pw (opP F)) rfl rfl _ (zb 64) (unhide HZ1) (unhide HSF) (by rw [zb_size, hFs]) (pw_one _) ?_)
      refine bodyPost_ret (v := .tuple #[.agg (pw (opP F)), .int .i64 (opF F)]) ?_ rfl ⟨rfl, (unhide HK1).setRow (Or.inr (by omega)) _⟩
      exact results_cell_tmp rfl _ _ (w.heap.size + 1) _ (pw (opP F)) (0, 0) _ rfl (setRow_heap _ _ _ _ _ _ (unhide HZ1)) Tryd.underlying65 rfl (unhide HSF) _ rfl
    · have h1' : ((m : Int) == n) = false := by simp; omega
      have HC := hide (by rw [← unhide HFF]; simp [twD, h1] : F = none)
      go_wp2_with (first
        | (refine wpList_build_as rfl 65 #[] rfl (pw (zD, zD)) (by kernel_rfl) ?_)
        | (rw [zb64]; refine wpList_store_row rfl 65 _ _ rfl (w.heap.size + 1) (pw (zD, zD)) rfl rfl _ (zb 64) (unhide HGZ) Tryd.size_pz (by rw [zb_size, pw_size rfl rfl]) (pw_one _) ?_))
      rw [unhide HC]
      refine bodyPost_ret (v := .tuple #[.agg (pw (zD, zD)), .int .i64 10]) ?_ rfl ⟨rfl, (unhide HK0).setRow (Or.inr (by omega)) _⟩
      exact results_cell_tmp rfl _ _ (w.heap.size + 1) _ (pw (zD, zD)) (0, 0) _ rfl (setRow_heap _ _ _ _ _ _ (unhide HGZ)) Tryd.underlying65 rfl Tryd.size_pz _ rfl
  | cons x r ih =>
    intro m n b pv w hm1 hmn hn hp hpf hT
    have HP := hide hp
    obtain ⟨ao, len, cap, rfl, h1, h2, h3, h4, h5⟩ := hp
    have hlen : len = r.length + 1 := by rw [← h1]; simp
    subst hlen
    clear h1 h4 h5
    have HT := hide hT
    have HPF := hide hpf
    have hol := ho.1
    have HO := hide ho
    have HX := hide ((unhide HP).dg (show x ∈ (x :: r).reverse by simp))
    have hxl := (unhide HX).1
    have HSL := hide (by rw [List.length_map, hol]; exact Tryd.size_dig : (Tryd.prog.info? 23).map (·.size) = some (old.map u8).length)
    have HPD := hide (fun y hy => ⟨(unhide HP).dg (List.mem_reverse.2 hy), hpf y hy⟩ : ∀ y ∈ x :: r, Dg y ∧ formB z y = true)
    have HTW := hide (fun d hd => twD_ok hw ho hf (x :: r) m n b d (unhide HPD) hd)
    clear hT hpf
    obtain ⟨F, hF⟩ : ∃ F, twD z old (x :: r) m n b = F := ⟨_, rfl⟩
    rw [hF] at HTW
    have HFF := hide hF
    rw [hF]
    clear hF
    have hdg := opP_dg (o := F) (fun d hd => ⟨(unhide HTW d hd).1.1, (unhide HTW d hd).2.1⟩)
    have hFs := pw_size hdg.1.1 hdg.2.1
    have HSF := hide (by rw [hFs]; exact Tryd.size_roots : (Tryd.prog.info? 65).map (·.size) = some (pw (opP F)).size)
    clear hdg HTW
    go_enter Tryd.func30, Tryd.ntmps30
    have HGL := hide (((Kept.refl [] (w.alloc (.cells (brow old) 23))).alloc (.cells (zb 64) 65)).heap (heap_alloc_new w (.cells (brow old) 23)) (by simp))
    have HGZ := hide (alloc_at w (.cells (brow old) 23) (.cells (zb 64) 65))
    have HK0 := hide (((Kept.refl [] w).alloc (.cells (brow old) 23)).alloc (.cells (zb 64) 65))
    by_cases h1 : m = n
    · have h1' : ((m : Int) == n) = true := by simp; omega
      subst h1
      go_wp2_with (refine wpList_load_mid rfl 23 _ rfl w.heap.size 0 rfl (old.map u8) _ (range_row (unhide HGL)) Tryd.underlying23 rfl (unhide HSL) ?_)
      rw [zb64]
      refine Calls.mono (lowest_any old b _ (x :: r).reverse _ (unhide HO) ((unhide HP).old (unhide HK0)) z m) ?_
      rintro e w1 ⟨rfl, k1⟩
      rw [List.reverse_reverse, unhide HFF]
      have HZ1 := hide (k1.heap (unhide HGZ) (by simp))
      have HK1 := hide ((unhide HK0).trans k1 (by simp))
      clear k1
      go_wp2_with (refine wpList_store_row rfl 65 _ _ rfl (w.heap.size + 1) (pw (opP F)) rfl rfl _ (zb 64) (unhide HZ1) (unhide HSF) (by rw [zb_size, hFs]) (pw_one _) ?_)
      refine bodyPost_ret (v := .tuple #[.agg (pw (opP F)), .int .i64 (opF F)]) ?_ rfl ⟨rfl, (unhide HK1).setRow (Or.inr (by omega)) _⟩
      exact results_cell_tmp rfl _ _ (w.heap.size + 1) _ (pw (opP F)) (0, 0) _ rfl (setRow_heap _ _ _ _ _ _ (unhide HZ1)) Tryd.underlying65 rfl (unhide HSF) _ rfl
    · have h1' : ((m : Int) == n) = false := by simp; omega
      have hne : (((r.length : Int) + 1) == 0) = false := by simp; omega
      go_wp2_with fail
      refine Calls.mono (parted_any _ (x :: r).reverse r x _ ((unhide HP).old (unhide HK0)) (by simp)) ?_
      rintro e w1 ⟨u1, rfl, d1, k1⟩
      have HD1 := hide d1
      have HG1 := hide (k1.heap (unhide HGL) (by simp))
      have HZ1 := hide (k1.heap (unhide HGZ) (by simp))
      have HK1 := hide ((unhide HK0).trans k1 (by simp))
      obtain ⟨a1, n1, c1, rfl, _⟩ := id d1
      clear d1 k1 HGL HGZ
      have HXW := hide (setRow_heap (w1.alloc (.cells (zb 32) 23)) w1.heap.size (zb 32) (brow x) 23 (0, 0) (heap_alloc_new _ _))
      have k2 := ((Kept.refl [] w1).alloc (.cells (zb 32) 23)).setRow (g := w1.heap.size) (Or.inr (Nat.le_refl _)) (brow x)
      have HSX := hide (by rw [brow_size, hxl]; exact Tryd.size_dig : (Tryd.prog.info? 23).map (·.size) = some (brow x).size)
      have HSXL := hide (by rw [List.length_map, hxl]; exact Tryd.size_dig : (Tryd.prog.info? 23).map (·.size) = some (x.map u8).length)
      have HD2 := hide ((unhide HD1).old k2)
      have HG2 := hide (k2.heap (unhide HG1) (by simp))
      have HZ2 := hide (k2.heap (unhide HZ1) (by simp))
      have HK2 := hide ((unhide HK1).trans k2 (by simp))
      clear k2 HD1 HG1 HZ1
      go_wp2_with (rw [zb32]; refine wpList_store_row rfl 23 _ _ rfl w1.heap.size (brow x) rfl rfl _ (zb 32) (heap_alloc_new _ _) (unhide HSX) (by rw [zb_size, brow_size, hxl]) (brow_one _) ?_)
      refine Calls.mono (split_any n _ (by omega) hn) ?_
      rintro e w3 ⟨rfl, k3⟩
      have HX3 := hide (k3.heap (unhide HXW) (by simp))
      have HD3 := hide ((unhide HD2).old k3)
      have HG3 := hide (k3.heap (unhide HG2) (by simp))
      have HZ3 := hide (k3.heap (unhide HZ2) (by simp))
      have HK3 := hide ((unhide HK2).trans k3 (by simp))
      clear k3 HXW HD2 HG2 HZ2
      have hk1 := spl_pos n
      have hk2 := spl_lt (n := n) (by omega)
      have HXF := hide (unhide HPF x (by simp))
      have HRF := hide (fun y hy => unhide HPF y (by simp [hy]) : ∀ y ∈ r, formB z y = true)
      have HRD := hide (fun y hy => unhide HPD y (by simp [hy]) : ∀ y ∈ r, Dg y ∧ formB z y = true)
      by_cases hik : m ≤ spl n
      · have hik' : (m : Int) ≤ (spl n : Nat) := by omega
        have HC := hide (by rw [← unhide HFF]; conv => lhs; unfold twD; rw [if_neg h1, if_pos hik] : F = (twD z old r m (spl n) b).map (fun y => (y.1, nodS z y.2 x)))
        have IH := fun (w' : World) (h' : RdD w' (.slice a1 n1 c1) r.reverse) (t' : Tabs w') => ih m (spl n) b (.slice a1 n1 c1) w' hm1 hik (by omega) h' (unhide HRF) t'
        have HOK := hide (fun d hd => twD_ok hw ho hf r m (spl n) b d (unhide HRD) hd)
        generalize twD z old r m (spl n) b = O at HC IH HOK
        go_wp2_with (refine wpList_load_mid rfl 23 _ rfl w.heap.size 0 rfl (old.map u8) _ (range_row (unhide HG3)) Tryd.underlying23 rfl (unhide HSL) ?_)
        refine Calls.mono (IH _ (unhide HD3) ((unhide HT).k (unhide HK3))) ?_
        rintro e w4 ⟨rfl, k4⟩
        have HX4 := hide (k4.heap (unhide HX3) (by simp))
        have HZ4 := hide (k4.heap (unhide HZ3) (by simp))
        have HK4 := hide ((unhide HK3).trans k4 (by simp))
        clear k4 HX3 HD3 HG3 HZ3 IH
        have hdg := opP_dg (o := O) (fun d hd => ⟨(unhide HOK d hd).1.1, (unhide HOK d hd).2.1⟩)
        have hol1 := hdg.1.1
        have hol2 := hdg.2.1
        have hOs := pw_size hol1 hol2
        have HSO := hide (by rw [hOs]; exact Tryd.size_roots : (Tryd.prog.info? 65).map (·.size) = some (pw (opP O)).size)
        have HNW := hide (setRow_heap (w4.alloc (.cells (zb 64) 65)) w4.heap.size (zb 64) (pw (opP O)) 65 (0, 0) (heap_alloc_new _ _))
        have k5 := ((Kept.refl [] w4).alloc (.cells (zb 64) 65)).setRow (g := w4.heap.size) (Or.inr (Nat.le_refl _)) (pw (opP O))
        have HX5 := hide (k5.heap (unhide HX4) (by simp))
        have HZ5 := hide (k5.heap (unhide HZ4) (by simp))
        have HK5 := hide ((unhide HK4).trans k5 (by simp))
        have HR1 := hide (pw_ranges (unhide HNW) hol1).1
        have HR2 := hide (pw_ranges (unhide HNW) hol1).2
        have HS1 := hide (by rw [List.length_map, hol1]; exact Tryd.size_dig : (Tryd.prog.info? 23).map (·.size) = some ((opP O).1.map u8).length)
        have HS2 := hide (by rw [List.length_map, hol2]; exact Tryd.size_dig : (Tryd.prog.info? 23).map (·.size) = some ((opP O).2.map u8).length)
        clear k5 HX4 HZ4
        go_wp2_with (first
          | (rw [zb64]; refine wpList_store_row rfl 65 _ _ rfl w4.heap.size (pw (opP O)) rfl rfl _ (zb 64) (heap_alloc_new _ _) (unhide HSO) (by rw [zb_size, hOs]) (pw_one _) ?_)
          | (refine wpList_load_mid rfl 23 _ rfl w4.heap.size 32 rfl ((opP O).2.map u8) _ (unhide HR2) Tryd.underlying23 rfl (unhide HS2) ?_)
          | (refine wpList_load_mid rfl 23 _ rfl w1.heap.size 0 rfl (x.map u8) _ (range_row (unhide HX5)) Tryd.underlying23 rfl (unhide HSXL) ?_))
        refine Calls.mono (over_sl z O x _ hz hw (unhide HOK) (unhide HX) (unhide HXF) ((unhide HT).k (unhide HK5))) ?_
        rintro e w6 ⟨rfl, k6⟩
        have HZ6 := hide (k6.heap (unhide HZ5) (by simp))
        have HK6 := hide ((unhide HK5).trans k6 (by simp))
        have HR6 := hide (range_kept (unhide HR1) k6 (by simp))
        clear k6 HX5 HZ5 HNW HR1 HR2
        have hNl := (opD_map_dg O (fun y => nodS z y.2 x) (fun y => nodS_dg _ _ _)).1
        obtain ⟨N, hN⟩ : ∃ N, opD (O.map (fun y => nodS z y.2 x)) = N := ⟨_, rfl⟩
        have HNE := hide hN
        rw [hN] at hNl ⊢
        clear hN
        have HSN := hide (by rw [brow_size, hNl]; exact Tryd.size_dig : (Tryd.prog.info? 23).map (·.size) = some (brow N).size)
        have HSLN := hide (by rw [List.length_map, hNl]; exact Tryd.size_dig : (Tryd.prog.info? 23).map (·.size) = some (N.map u8).length)
        have HNN := hide (setRow_heap (w6.alloc (.cells (zb 32) 23)) w6.heap.size (zb 32) (brow N) 23 (0, 0) (heap_alloc_new _ _))
        have kN := ((Kept.refl [] w6).alloc (.cells (zb 32) 23)).setRow (g := w6.heap.size) (Or.inr (Nat.le_refl _)) (brow N)
        have HZ7 := hide (kN.heap (unhide HZ6) (by simp))
        have HK7 := hide ((unhide HK6).trans kN (by simp))
        have HR7 := hide (range_kept (unhide HR6) kN (by simp))
        clear kN HZ6 HR6
        have HPF2 := hide (by rw [unhide HC, ← unhide HNE]; cases O <;> exact ⟨rfl, rfl⟩ : ((opP O).1, N) = opP F ∧ opF O = opF F)
        have HPS := hide (by rw [(unhide HPF2).1]; exact unhide HSF : (Tryd.prog.info? 65).map (·.size) = some (pw ((opP O).1, N)).size)
        have HPZ := hide (by rw [(unhide HPF2).1, zb_size, hFs] : (zb 64).size = (pw ((opP O).1, N)).size)
        go_wp2_with (first
          | (rw [zb32]; refine wpList_store_row rfl 23 _ _ rfl w6.heap.size (brow N) rfl rfl _ (zb 32) (heap_alloc_new _ _) (unhide HSN) (by rw [zb_size, brow_size, hNl]) (brow_one _) ?_)
          | (refine wpList_load_mid rfl 23 _ rfl w4.heap.size 0 rfl ((opP O).1.map u8) _ (unhide HR7) Tryd.underlying23 rfl (unhide HS1) ?_)
          | (refine wpList_load_mid rfl 23 _ rfl w6.heap.size 0 rfl (N.map u8) _ (range_row (unhide HNN)) Tryd.underlying23 rfl (unhide HSLN) ?_)
          | (refine wpList_build_as rfl 65 _ rfl (pw ((opP O).1, N)) (by simp only [List.map_toArray, List.map_cons, List.map_nil]; exact built_pair (opP O).1 N hol1 hNl) ?_)
          | (refine wpList_store_row rfl 65 _ _ rfl (w.heap.size + 1) (pw ((opP O).1, N)) rfl rfl _ (zb 64) (unhide HZ7) (unhide HPS) (unhide HPZ) (pw_one _) ?_))
        refine bodyPost_ret (v := .tuple #[.agg (pw ((opP O).1, N)), .int .i64 (opF O)]) ?_ rfl ⟨by rw [(unhide HPF2).1, (unhide HPF2).2], (unhide HK7).setRow (Or.inr (by omega)) _⟩
        exact results_cell_tmp rfl _ _ (w.heap.size + 1) _ (pw ((opP O).1, N)) (0, 0) _ rfl (setRow_heap _ _ _ _ _ _ (unhide HZ7)) Tryd.underlying65 rfl (unhide HPS) _ rfl
      · have hik' : ¬ (m : Int) ≤ (spl n : Nat) := by omega
        have hs1 : ((m : Int) - (spl n : Nat)) = ((m - spl n : Nat) : Int) := by omega
        have hs2 : ((n : Int) - (spl n : Nat)) = ((n - spl n : Nat) : Int) := by omega
        have hb1 : ((spl n : Nat) : Int) ≤ m := by omega
        have hb2 : ((spl n : Nat) : Int) ≤ n := by omega
        have HC := hide (by rw [← unhide HFF]; conv => lhs; unfold twD; rw [if_neg h1, if_neg hik] : F = (twD z old r (m - spl n) (n - spl n) false).map (fun y => (nodS z x y.1, nodS z x y.2)))
        have IH := fun (w' : World) (h' : RdD w' (.slice a1 n1 c1) r.reverse) (t' : Tabs w') => ih (m - spl n) (n - spl n) false (.slice a1 n1 c1) w' (by omega) (by omega) (by omega) h' (unhide HRF) t'
        have HOK := hide (fun d hd => twD_ok hw ho hf r (m - spl n) (n - spl n) false d (unhide HRD) hd)
        generalize twD z old r (m - spl n) (n - spl n) false = O at HC IH HOK
        go_wp2_with (refine wpList_load_mid rfl 23 _ rfl w.heap.size 0 rfl (old.map u8) _ (range_row (unhide HG3)) Tryd.underlying23 rfl (unhide HSL) ?_)
        refine Calls.mono (IH _ (unhide HD3) ((unhide HT).k (unhide HK3))) ?_
        rintro e w4 ⟨rfl, k4⟩
        have HX4 := hide (k4.heap (unhide HX3) (by simp))
        have HZ4 := hide (k4.heap (unhide HZ3) (by simp))
        have HK4 := hide ((unhide HK3).trans k4 (by simp))
        clear k4 HX3 HD3 HG3 HZ3 IH
        have hdg := opP_dg (o := O) (fun d hd => ⟨(unhide HOK d hd).1.1, (unhide HOK d hd).2.1⟩)
        have hol1 := hdg.1.1
        have hol2 := hdg.2.1
        have hOs := pw_size hol1 hol2
        have HSO := hide (by rw [hOs]; exact Tryd.size_roots : (Tryd.prog.info? 65).map (·.size) = some (pw (opP O)).size)
        have HNW := hide (setRow_heap (w4.alloc (.cells (zb 64) 65)) w4.heap.size (zb 64) (pw (opP O)) 65 (0, 0) (heap_alloc_new _ _))
        have k5 := ((Kept.refl [] w4).alloc (.cells (zb 64) 65)).setRow (g := w4.heap.size) (Or.inr (Nat.le_refl _)) (pw (opP O))
        have HX5 := hide (k5.heap (unhide HX4) (by simp))
        have HZ5 := hide (k5.heap (unhide HZ4) (by simp))
        have HK5 := hide ((unhide HK4).trans k5 (by simp))
        have HR1 := hide (pw_ranges (unhide HNW) hol1).1
        have HR2 := hide (pw_ranges (unhide HNW) hol1).2
        have HS1 := hide (by rw [List.length_map, hol1]; exact Tryd.size_dig : (Tryd.prog.info? 23).map (·.size) = some ((opP O).1.map u8).length)
        have HS2 := hide (by rw [List.length_map, hol2]; exact Tryd.size_dig : (Tryd.prog.info? 23).map (·.size) = some ((opP O).2.map u8).length)
        clear k5 HX4 HZ4
        go_wp2_with (first
          | (rw [zb64]; refine wpList_store_row rfl 65 _ _ rfl w4.heap.size (pw (opP O)) rfl rfl _ (zb 64) (heap_alloc_new _ _) (unhide HSO) (by rw [zb_size, hOs]) (pw_one _) ?_)
          | (refine wpList_load_mid rfl 23 _ rfl w4.heap.size 0 rfl ((opP O).1.map u8) _ (unhide HR1) Tryd.underlying23 rfl (unhide HS1) ?_)
          | (refine wpList_load_mid rfl 23 _ rfl w1.heap.size 0 rfl (x.map u8) _ (range_row (unhide HX5)) Tryd.underlying23 rfl (unhide HSXL) ?_))
        refine Calls.mono (over_rf z O x _ hz hw (unhide HOK) (unhide HX) (unhide HXF) ((unhide HT).k (unhide HK5))) ?_
        rintro e w6 ⟨rfl, k6⟩
        have HZ6 := hide (k6.heap (unhide HZ5) (by simp))
        have HX6 := hide (k6.heap (unhide HX5) (by simp))
        have HK6 := hide ((unhide HK5).trans k6 (by simp))
        have HR6 := hide (range_kept (unhide HR2) k6 (by simp))
        clear k6 HX5 HZ5 HNW HR1 HR2
        have hMl := (opD_map_dg O (fun y => nodS z x y.1) (fun y => nodS_dg _ _ _)).1
        obtain ⟨M, hM⟩ : ∃ M, opD (O.map (fun y => nodS z x y.1)) = M := ⟨_, rfl⟩
        have HME := hide hM
        rw [hM] at hMl ⊢
        clear hM
        have HSM := hide (by rw [brow_size, hMl]; exact Tryd.size_dig : (Tryd.prog.info? 23).map (·.size) = some (brow M).size)
        have HSLM := hide (by rw [List.length_map, hMl]; exact Tryd.size_dig : (Tryd.prog.info? 23).map (·.size) = some (M.map u8).length)
        have HNM := hide (setRow_heap (w6.alloc (.cells (zb 32) 23)) w6.heap.size (zb 32) (brow M) 23 (0, 0) (heap_alloc_new _ _))
        have kM := ((Kept.refl [] w6).alloc (.cells (zb 32) 23)).setRow (g := w6.heap.size) (Or.inr (Nat.le_refl _)) (brow M)
        have HZ7 := hide (kM.heap (unhide HZ6) (by simp))
        have HX7 := hide (kM.heap (unhide HX6) (by simp))
        have HK7 := hide ((unhide HK6).trans kM (by simp))
        have HR7 := hide (range_kept (unhide HR6) kM (by simp))
        clear kM HZ6 HR6 HX6
        go_wp2_with (first
          | (rw [zb32]; refine wpList_store_row rfl 23 _ _ rfl w6.heap.size (brow M) rfl rfl _ (zb 32) (heap_alloc_new _ _) (unhide HSM) (by rw [zb_size, brow_size, hMl]) (brow_one _) ?_)
          | (refine wpList_load_mid rfl 23 _ rfl w4.heap.size 32 rfl ((opP O).2.map u8) _ (unhide HR7) Tryd.underlying23 rfl (unhide HS2) ?_)
          | (refine wpList_load_mid rfl 23 _ rfl w1.heap.size 0 rfl (x.map u8) _ (range_row (unhide HX7)) Tryd.underlying23 rfl (unhide HSXL) ?_))
        refine Calls.mono (over_rs z O x _ hz hw (unhide HOK) (unhide HX) (unhide HXF) ((unhide HT).k (unhide HK7))) ?_
        rintro e w8 ⟨rfl, k8⟩
        have HZ8 := hide (k8.heap (unhide HZ7) (by simp))
        have HM8 := hide (k8.heap (unhide HNM) (by simp))
        have HK8 := hide ((unhide HK7).trans k8 (by simp))
        clear k8 HZ7 HX7 HR7 HNM
        have hNl := (opD_map_dg O (fun y => nodS z x y.2) (fun y => nodS_dg _ _ _)).1
        obtain ⟨N, hN⟩ : ∃ N, opD (O.map (fun y => nodS z x y.2)) = N := ⟨_, rfl⟩
        have HNE := hide hN
        rw [hN] at hNl ⊢
        clear hN
        have HSN := hide (by rw [brow_size, hNl]; exact Tryd.size_dig : (Tryd.prog.info? 23).map (·.size) = some (brow N).size)
        have HSLN := hide (by rw [List.length_map, hNl]; exact Tryd.size_dig : (Tryd.prog.info? 23).map (·.size) = some (N.map u8).length)
        have HNN := hide (setRow_heap (w8.alloc (.cells (zb 32) 23)) w8.heap.size (zb 32) (brow N) 23 (0, 0) (heap_alloc_new _ _))
        have kN := ((Kept.refl [] w8).alloc (.cells (zb 32) 23)).setRow (g := w8.heap.size) (Or.inr (Nat.le_refl _)) (brow N)
        have HZ9 := hide (kN.heap (unhide HZ8) (by simp))
        have HM9 := hide (kN.heap (unhide HM8) (by simp))
        have HK9 := hide ((unhide HK8).trans kN (by simp))
        clear kN HZ8 HM8
        have HPF2 := hide (by rw [unhide HC, ← unhide HNE, ← unhide HME]; cases O <;> exact ⟨rfl, rfl⟩ : (M, N) = opP F ∧ opF O = opF F)
        have HPS := hide (by rw [(unhide HPF2).1]; exact unhide HSF : (Tryd.prog.info? 65).map (·.size) = some (pw (M, N)).size)
        have HPZ := hide (by rw [(unhide HPF2).1, zb_size, hFs] : (zb 64).size = (pw (M, N)).size)
        go_wp2_with (first
          | (rw [zb32]; refine wpList_store_row rfl 23 _ _ rfl w8.heap.size (brow N) rfl rfl _ (zb 32) (heap_alloc_new _ _) (unhide HSN) (by rw [zb_size, brow_size, hNl]) (brow_one _) ?_)
          | (refine wpList_load_mid rfl 23 _ rfl w6.heap.size 0 rfl (M.map u8) _ (range_row (unhide HM9)) Tryd.underlying23 rfl (unhide HSLM) ?_)
          | (refine wpList_load_mid rfl 23 _ rfl w8.heap.size 0 rfl (N.map u8) _ (range_row (unhide HNN)) Tryd.underlying23 rfl (unhide HSLN) ?_)
          | (refine wpList_build_as rfl 65 _ rfl (pw (M, N)) (by simp only [List.map_toArray, List.map_cons, List.map_nil]; exact built_pair M N hMl hNl) ?_)
          | (refine wpList_store_row rfl 65 _ _ rfl (w.heap.size + 1) (pw (M, N)) rfl rfl _ (zb 64) (unhide HZ9) (unhide HPS) (unhide HPZ) (pw_one _) ?_))
        refine bodyPost_ret (v := .tuple #[.agg (pw (M, N)), .int .i64 (opF O)]) ?_ rfl ⟨by rw [(unhide HPF2).1, (unhide HPF2).2], (unhide HK9).setRow (Or.inr (by omega)) _⟩
        exact results_cell_tmp rfl _ _ (w.heap.size + 1) _ (pw (M, N)) (0, 0) _ rfl (setRow_heap _ _ _ _ _ _ (unhide HZ9)) Tryd.underlying65 rfl (unhide HPS) _ rfl
end Go.Proofs.YtbljofojeagdkaaDoor
