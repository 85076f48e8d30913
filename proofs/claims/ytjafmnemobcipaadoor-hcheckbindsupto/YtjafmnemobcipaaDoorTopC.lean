import Derived.Test.YtjafmnemobcipaaDoorTopA
import Derived.Test.YtjafmnemobcipaaDoorTopB
import Derived.Test.YtjafmnemobcipaaDoorRowz
import Derived.Deep.RegionHeld3
namespace Go.Proofs.YtjafmnemobcipaaDoor
open Go.RowKit Go.BigFrame
set_option linter.unusedVariables false
set_option linter.unusedSimpArgs false

theorem sunD_dg (e : Nat) (z : Int) (p : List Nat) : Dg (sunD e z p) := ⟨sunD_len _ _ _, by
  unfold sunD sumD
  split
  · split
    · exact cutL_byte _ _ (hash_byte _)
    · intro x hx; simp at hx; omega
  · intro x hx; simp at hx; omega⟩
theorem sumD_dg (z : Int) (p : List Nat) : Dg (sumD z p) := ⟨sumD_len _ _, by
  unfold sumD
  split
  · exact cutL_byte _ _ (hash_byte _)
  · intro x hx; simp at hx; omega⟩
theorem RdS.nil (w : World) : RdS w (.slice none 0 0) [] := ⟨none, 0, 0, [], rfl, rfl, Nat.le_refl _, by omega, fun i hi => by omega, fun h => by omega⟩
theorem RdS.less {w : World} {ao : Option Addr} {n c : Nat} {ss : List (Nat × List (List Nat))} (h : RdS w (.slice ao n c) ss) (m : Nat) (hm : m ≤ n) : RdS w (.slice ao m c) (ss.take m) := by
  obtain ⟨_, _, _, vs, he, h1, h2, h3, h4, h5⟩ := h
  cases he
  refine ⟨_, m, c, vs, rfl, by simp [h1]; omega, by omega, h3, fun i hi => ?_, fun hp => ?_⟩
  · have := h4 i (by omega)
    rw [List.getD_eq_getElem?_getD, List.getElem?_take_of_lt hi, ← List.getD_eq_getElem?_getD]
    exact this
  · obtain ⟨b, off, e, hc⟩ := h5 (by omega)
    refine ⟨b, off, e, fun i hi => ?_⟩
    rw [List.getD_eq_getElem?_getD, List.getElem?_take_of_lt hi, ← List.getD_eq_getElem?_getD]
    exact hc i (by omega)

theorem wp_branch {o : Oper} {a : Act} {w : World} {K : Act → World → Prop} {Q : Exit → Act → World → Prop} (x0 x1 x2 : Operand) (ts : Array TypeId) (ho : o.op = .call { callee := .value (.func 40), args := #[x0, x1, x2], argTypes := ts }) (u0 u1 u2 v : Value) (e0 : a.eval x0 = u0) (e1 : a.eval x1 = u1) (e2 : a.eval x2 = u2)
    (hc : Calls Tryd.prog 40 #[u0, u1, u2] w fun e w' => e = .returned v ∧ Kept [] w w') (h : ∀ w1, Kept [] w w1 → K (a.put o.dst v) w1) : o.wp Tryd.prog a w K Q := by
  unfold Oper.wp execOp
  simp only [ho]
  have hf : a.eval (.func 40) = .func (.func 40) #[] #[] := rfl
  have hcl : ∀ args W, (callFunc 40 args).run Tryd.prog W = .ok (.enter 40 args) W := fun args W => Tryd.call40 args W
  simp only [resolve, invoke, hf, e0, e1, e2, Sem.run_bind, Sem.run_pure, Result.andThen_ok, List.map_toArray, List.map_cons, List.map_nil, hcl]
  simp [Deferred.ofValue, hcl, go_sem]
  refine hc.mono ?_
  rintro e w2 ⟨rfl, k2⟩
  exact h w2 k2

set_option maxRecDepth 100000 in
set_option maxHeartbeats 4000000 in
theorem foot_any (z : Int) (sv pv : Value) (ss : List (Nat × List (List Nat))) (ps : List (List Nat × List Nat)) (w : World) (hw : widthB z = true) (hs : RdS w sv ss) (hp : RdK w pv ps) (hT : Tabs w) (hpb : (pairB ps).length ≤ 1000000000000) :
    Calls Tryd.prog 38 #[.int .i64 z, .agg #[sv, pv]] w fun e w' => (∃ v', e = .returned (.tuple #[.agg (brow (footD z ss ps)), v']) ∧ RdS w' v' (ss.take (footN ss ps))) ∧ Kept [] w w' := by
  obtain ⟨sa, sn, sc, vs0, rfl, _⟩ := id hs
  obtain ⟨pa, pn, pc, _, _, rfl, _⟩ := id hp
  obtain ⟨h1, h2, h3, h4⟩ := hs.cells
  obtain ⟨g1, g2, g3, g4⟩ := hp.cells
  have H4 := hide h4
  have HP := hide hp
  have HS := hide hs
  have HT := hide hT
  have hz : 1 ≤ z ∧ z ≤ 32 := width_le hw
  clear h4 g4 hp hs hT
  subst h1
  subst g1
  have HK0 := hide (((Kept.refl [] w).alloc (.cells #[.slice sa ss.length sc, .slice pa ps.length pc] 26)).alloc (.cells (zb 32) 29))
  have HG0 := hide (heap_alloc2_old w (.cells #[.slice sa ss.length sc, .slice pa ps.length pc] 26) (.cells (zb 32) 29))
  have HZ0 := hide (heap_alloc2_new w (.cells #[.slice sa ss.length sc, .slice pa ps.length pc] 26) (.cells (zb 32) 29))
  obtain ⟨W, hW⟩ : ∃ W, (w.alloc (.cells #[.slice sa ss.length sc, .slice pa ps.length pc] 26)).alloc (.cells (zb 32) 29) = W := ⟨_, rfl⟩
  rw [hW] at HK0 HG0 HZ0
  have c0 : W.cell? ⟨w.heap.size, 0, none⟩ = some (.slice sa ss.length sc) := cell_of_row W w.heap.size 0 _ _ _ (unhide HG0)
  have c1 : W.cell? ⟨w.heap.size, 1, none⟩ = some (.slice pa ps.length pc) := cell_of_row W w.heap.size 1 _ _ _ (unhide HG0)
  go_enter Tryd.func38, Tryd.ntmps38
  by_cases hp0 : 0 < ps.length
  · have hp0' : (0 : Int) < ps.length := by omega
    have HD := hide (by unfold footD; rw [if_pos hp0] : footD z ss ps = sumD z (buckB ps))
    have HN := hide (by unfold footN; rw [if_pos hp0, List.take_length] : ss.take (footN ss ps) = ss)
    clear hp0
    go_wp2_with (first | (rw [zb32, hW]))
    clear hW
    refine Calls.mono (bucket_all z _ ps _ (by omega) ((unhide HP).old (unhide HK0)) hpb ((unhide HT).k (unhide HK0))) ?_
    rintro e w1 ⟨rfl, k1⟩
    have HDG := hide (sumD_dg z (buckB ps))
    generalize sumD z (buckB ps) = D at HD HDG ⊢
    have hd := (unhide HDG).1
    have kN := (k1.alloc (.cells (zb 32) 29)).setRow (g := w1.heap.size) (Or.inr k1.size) (brow D)
    have HN1 := hide (setRow_heap (w1.alloc (.cells (zb 32) 29)) w1.heap.size (zb 32) (brow D) 29 (0, 0) (heap_alloc_new _ _))
    have HK1 := hide ((unhide HK0).trans kN (by simp))
    have HZ1 := hide (kN.heap (unhide HZ0) (by simp))
    have d0 := kN.cell c0 (by simp)
    have HSZ := hide (Tryd.szD hd)
    have HLT := hide (Nat.lt_of_lt_of_le (lt_of_block (unhide HZ0)) k1.size : w.heap.size + 1 < w1.heap.size)
    clear kN k1 c0 c1 HK0 HZ0 HG0
    go_wp2_with (first
      | (rw [zb32]; refine wpList_store_row rfl 29 _ _ rfl w1.heap.size (brow D) rfl rfl _ (zb 32) (heap_alloc_new _ _) (unhide HSZ) (by rw [zb_size, brow_size, hd]) (brow_one _) ?_)
      | (refine wpList_load_row rfl 29 _ rfl w1.heap.size rfl _ (brow D) (0, 0) _ (unhide HN1) Tryd.underlying29 rfl (unhide HSZ) ?_)
      | (refine wpList_store_row rfl 29 _ _ rfl (w.heap.size + 1) (brow D) rfl rfl _ (zb 32) (unhide HZ1) (unhide HSZ) (by rw [zb_size, brow_size, hd]) (brow_one _) ?_))
    obtain ⟨X, hX⟩ : ∃ X, (w1.alloc (.cells (zb 32) 29)).setRow w1.heap.size (brow D) = X := ⟨_, rfl⟩
    rw [hX] at HN1 HK1 HZ1 d0 ⊢
    clear hX
    refine wp_rs5 (fun w' => Kept [w.heap.size + 1] X w') (by kernel_rfl) (by kernel_rfl) (by kernel_rfl) (by kernel_rfl) (by kernel_rfl) (by kernel_rfl) (by kernel_rfl) (by kernel_rfl) (by kernel_rfl) (by kernel_rfl) (by kernel_rfl) (by kernel_rfl) rfl ((Kept.refl _ X).drew)
      (.agg (D.map u8).toArray) (.pointer (some ⟨w.heap.size, 0, none⟩)) (.slice sa ss.length sc) (.slice sa ss.length sc) _ _ _ _ (by simp only [Act.put, List.setIfInBounds_toArray, List.set_cons_zero, List.set_cons_succ]; rfl) (by simp only [Act.put, List.setIfInBounds_toArray, List.set_cons_zero, List.set_cons_succ]; rfl) (by simp only [Act.put, List.setIfInBounds_toArray, List.set_cons_zero, List.set_cons_succ]; rfl) (by simp only [Act.put, List.setIfInBounds_toArray, List.set_cons_zero, List.set_cons_succ]; rfl)
      (by exact yieldsIf_load_mid (by rfl) _ _ rfl w1.heap.size 0 rfl (D.map u8) _ (fun W' hW' => range_row (hW'.heap (unhide HN1) (by simp; have := unhide HLT; omega))) Tryd.underlying29 rfl (by rw [List.length_map, hd]; exact Tryd.size_dig))
      (by exact Or.inl ⟨by rfl, fun W' hW' => by go_simp⟩)
      (by exact Or.inl ⟨by rfl, fun W' hW' => by have h9 := hW'.cell d0 (by simp); go_simp⟩)
      (by exact Or.inl ⟨by rfl, fun W' hW' => by go_simp⟩)
      (X.drew.setRow (w.heap.size + 1) (brow D))
      (by intro K hK; exact wp_store_row 29 _ _ rfl (w.heap.size + 1) (brow D) rfl rfl _ (zb 32) (unhide HZ1) (unhide HSZ) (by rw [zb_size, brow_size, hd]) (brow_one _) hK)
      ((Kept.refl _ X).drew.setRow (Or.inl (by simp)) _) ?_
    have HKF := hide ((unhide HK1).drew.setRow (g := w.heap.size + 1) (Or.inr (by omega)) (brow D))
    have HZF := hide (setRow_heap X.drew (w.heap.size + 1) (zb 32) (brow D) 29 (0, 0) (unhide HZ1))
    go_wp2_with fail
    rw [unhide HD, unhide HN]
    refine bodyPost_ret (v := .tuple #[.agg (brow D), .slice sa ss.length sc]) ?_ rfl ⟨⟨_, rfl, (unhide HS).old (unhide HKF)⟩, unhide HKF⟩
    exact results_cell_tmp rfl _ _ (w.heap.size + 1) _ (brow D) (0, 0) _ rfl (unhide HZF) Tryd.underlying29 rfl (unhide HSZ) _ rfl
  · have hp0' : ¬ (0 : Int) < ps.length := by omega
    by_cases hs0 : ss.length = 0
    · have hs0' : (ss.length : Int) = 0 := by omega
      have HD := hide (by unfold footD; rw [if_neg hp0, if_pos hs0] : footD z ss ps = sumD z [5])
      have HN := hide (by have h9 : ss = [] := List.eq_nil_of_length_eq_zero hs0
                          rw [h9]; simp : ss.take (footN ss ps) = [])
      clear hp0 hs0
      go_wp2_with (first | (rw [zb32, hW]))
      clear hW
      refine Calls.mono (nomap_all z _ (by omega) ((unhide HT).k (unhide HK0))) ?_
      rintro e w1 ⟨rfl, k1⟩
      have HDG := hide (sumD_dg z [5])
      generalize sumD z [5] = D at HD HDG ⊢
      have hd := (unhide HDG).1
      have kN := (k1.alloc (.cells (zb 32) 29)).setRow (g := w1.heap.size) (Or.inr k1.size) (brow D)
      have HN1 := hide (setRow_heap (w1.alloc (.cells (zb 32) 29)) w1.heap.size (zb 32) (brow D) 29 (0, 0) (heap_alloc_new _ _))
      have HK1 := hide ((unhide HK0).trans kN (by simp))
      have HZ1 := hide (kN.heap (unhide HZ0) (by simp))
      have d0 := kN.cell c0 (by simp)
      have HSZ := hide (Tryd.szD hd)
      have HLT := hide (Nat.lt_of_lt_of_le (lt_of_block (unhide HZ0)) k1.size : w.heap.size + 1 < w1.heap.size)
      clear kN k1 c0 c1 HK0 HZ0 HG0
      go_wp2_with (first
        | (rw [zb32]; refine wpList_store_row rfl 29 _ _ rfl w1.heap.size (brow D) rfl rfl _ (zb 32) (heap_alloc_new _ _) (unhide HSZ) (by rw [zb_size, brow_size, hd]) (brow_one _) ?_)
        | (refine wpList_load_row rfl 29 _ rfl w1.heap.size rfl _ (brow D) (0, 0) _ (unhide HN1) Tryd.underlying29 rfl (unhide HSZ) ?_)
        | (refine wpList_store_row rfl 29 _ _ rfl (w.heap.size + 1) (brow D) rfl rfl _ (zb 32) (unhide HZ1) (unhide HSZ) (by rw [zb_size, brow_size, hd]) (brow_one _) ?_))
      have HKF := hide ((unhide HK1).setRow (g := w.heap.size + 1) (Or.inr (by omega)) (brow D))
      have HZF := hide (setRow_heap ((w1.alloc (.cells (zb 32) 29)).setRow w1.heap.size (brow D)) (w.heap.size + 1) (zb 32) (brow D) 29 (0, 0) (unhide HZ1))
      rw [unhide HD, unhide HN]
      refine bodyPost_ret (v := .tuple #[.agg (brow D), .slice none 0 0]) ?_ rfl ⟨⟨_, rfl, RdS.nil _⟩, unhide HKF⟩
      exact results_cell_tmp rfl _ _ (w.heap.size + 1) _ (brow D) (0, 0) _ rfl (unhide HZF) Tryd.underlying29 rfl (unhide HSZ) _ rfl
    · have hs0' : ¬ (ss.length : Int) = 0 := by omega
      have HD := hide (by unfold footD; rw [if_neg hp0, if_neg hs0]; rfl : footD z ss ps = sunD (branchE z (ss.getD (ss.length - 1) (0, [])).1 (ss.getD (ss.length - 1) (0, [])).2) z (branchB z (ss.getD (ss.length - 1) (0, [])).1 (ss.getD (ss.length - 1) (0, [])).2))
      have HN := hide (by unfold footN; rw [if_neg hp0] : ss.take (footN ss ps) = ss.take (ss.length - 1))
      obtain ⟨L, hL⟩ : ∃ L, ss.length - 1 = L := ⟨_, rfl⟩
      have hsub : (ss.length : Int) - 1 = (L : Int) := by omega
      have hLlt : L < ss.length := by omega
      have hLl : (L : Int) < ss.length := by omega
      obtain ⟨b, o, v, rfl, e1, e2, hsb, r2⟩ := unhide H4 L hLlt
      rw [hL] at HD HN
      have q1 := (unhide HK0).cell e1 (by simp)
      have q2 := (unhide HK0).cell e2 (by simp)
      have HX := hide (r2.old (unhide HK0))
      clear e1 e2 r2 hL hp0 hs0
      generalize ss.getD L (0, []) = s at q1 hsb HD HX
      obtain ⟨sb, sk⟩ := s
      simp only at q1 hsb HD HX
      obtain ⟨a8, m8, c8, rfl, hm8, _⟩ := id (unhide HX)
      subst hm8
      have hLc : (L : Int) ≤ sc := by omega
      have hL0 : (0 : Int) ≤ L := by omega
      go_wp2_with (first | (rw [zb32, hW]))
      clear hW
      have HCT := hide (fun w0 (hw0 : Kept [] W w0) => branch_all z sb (.slice a8 sk.length c8) sk w0 (by omega) hsb ((unhide HX).old hw0) ((unhide HT).k ((unhide HK0).trans hw0 (by simp))))
      have HDG := hide (sunD_dg (branchE z sb sk) z (branchB z sb sk))
      generalize sunD (branchE z sb sk) z (branchB z sb sk) = D at HD HDG HCT
      generalize sunE (branchE z sb sk) z = E at HCT
      have hd := (unhide HDG).1
      have HSZ := hide (Tryd.szD hd)
      refine wp_call20 (by kernel_rfl) (by kernel_rfl) (by kernel_rfl) (by kernel_rfl) (by kernel_rfl) (by kernel_rfl) (by kernel_rfl) (by kernel_rfl) (by kernel_rfl) (by kernel_rfl) (by kernel_rfl) (by kernel_rfl) (by kernel_rfl) (by kernel_rfl) (by kernel_rfl) (by kernel_rfl) (by kernel_rfl) (by kernel_rfl) (by kernel_rfl) (by kernel_rfl) (by kernel_rfl) (by kernel_rfl) (by kernel_rfl) (by kernel_rfl) (by kernel_rfl) (by kernel_rfl) (by kernel_rfl) (by kernel_rfl) (by kernel_rfl) (by kernel_rfl) (by kernel_rfl) (by kernel_rfl) (by kernel_rfl) (by kernel_rfl) (by kernel_rfl) (by kernel_rfl) (by kernel_rfl) (by kernel_rfl) (by kernel_rfl) (by kernel_rfl) (by kernel_rfl) (by kernel_rfl) (by kernel_rfl) (by kernel_rfl) (by kernel_rfl) (by kernel_rfl) (by kernel_rfl) rfl rfl rfl
        (.int .i64 z) (.pointer (some ⟨w.heap.size, 0, none⟩)) (.slice (some ⟨b, o, none⟩) ss.length sc) (.int .i64 L) (.pointer (some ⟨b, o + L * 2, none⟩)) (.pointer (some ⟨b, o + L * 2, none⟩)) (.int .u16 sb) (.pointer (some ⟨w.heap.size, 0, none⟩)) (.slice (some ⟨b, o, none⟩) ss.length sc) (.int .i64 L) (.pointer (some ⟨b, o + L * 2, none⟩)) (.pointer (some ⟨b, o + L * 2 + 1, none⟩)) (.slice a8 sk.length c8) (.tuple #[.agg (brow D), .int .i64 (E : Int)]) (.tuple #[.agg (brow D), .int .i64 (E : Int)]) (.agg (brow D)) (.int .i64 (E : Int)) (.int .i64 (E : Int)) _ _ _ _ _ _ _ _ _ _ _ _ _ (by simp only [Act.put, List.setIfInBounds_toArray, List.set_cons_zero, List.set_cons_succ]; rfl) (by simp only [Act.put, List.setIfInBounds_toArray, List.set_cons_zero, List.set_cons_succ]; rfl) (by simp only [Act.put, List.setIfInBounds_toArray, List.set_cons_zero, List.set_cons_succ]; rfl) (by simp only [Act.put, List.setIfInBounds_toArray, List.set_cons_zero, List.set_cons_succ]; rfl) (by simp only [Act.put, List.setIfInBounds_toArray, List.set_cons_zero, List.set_cons_succ]; rfl) (by simp only [Act.put, List.setIfInBounds_toArray, List.set_cons_zero, List.set_cons_succ]; rfl) (by simp only [Act.put, List.setIfInBounds_toArray, List.set_cons_zero, List.set_cons_succ]; rfl) (by simp only [Act.put, List.setIfInBounds_toArray, List.set_cons_zero, List.set_cons_succ]; rfl) (by simp only [Act.put, List.setIfInBounds_toArray, List.set_cons_zero, List.set_cons_succ]; rfl) (by simp only [Act.put, List.setIfInBounds_toArray, List.set_cons_zero, List.set_cons_succ]; rfl) (by simp only [Act.put, List.setIfInBounds_toArray, List.set_cons_zero, List.set_cons_succ]; rfl) (by simp only [Act.put, List.setIfInBounds_toArray, List.set_cons_zero, List.set_cons_succ]; rfl) (by simp only [Act.put, List.setIfInBounds_toArray, List.set_cons_zero, List.set_cons_succ]; rfl)
        (by exact Or.inl ⟨by rfl, fun W' hW' => by go_simp⟩)
        (by exact Or.inl ⟨by rfl, fun W' hW' => by go_simp⟩)
        (by exact Or.inl ⟨by rfl, fun W' hW' => by have h9 := hW'.cell c0 (by simp); go_simp⟩)
        (by exact Or.inl ⟨by rfl, fun W' hW' => by go_simp⟩)
        (by exact Or.inl ⟨by rfl, fun W' hW' => by go_simp⟩)
        (by exact Or.inl ⟨by rfl, fun W' hW' => by go_simp⟩)
        (by exact Or.inl ⟨by rfl, fun W' hW' => by have h9 := hW'.cell q1 (by simp); go_simp⟩)
        (by exact Or.inl ⟨by rfl, fun W' hW' => by go_simp⟩)
        (by exact Or.inl ⟨by rfl, fun W' hW' => by have h9 := hW'.cell c0 (by simp); go_simp⟩)
        (by exact Or.inl ⟨by rfl, fun W' hW' => by go_simp⟩)
        (by exact Or.inl ⟨by rfl, fun W' hW' => by go_simp⟩)
        (by exact Or.inl ⟨by rfl, fun W' hW' => by go_simp⟩)
        (by exact Or.inl ⟨by rfl, fun W' hW' => by have h9 := hW'.cell q2 (by simp); go_simp⟩)
        (by intro w0 k0 K hK; exact wp_branch _ _ _ _ rfl _ _ _ _ rfl rfl rfl (unhide HCT w0 k0) hK)
        (by intro g w0 k0 K hK; exact wp_branch _ _ _ _ rfl _ _ _ _ rfl rfl rfl (unhide HCT w0 k0) hK)
        (by exact Or.inl ⟨by rfl, fun W' hW' => by go_simp⟩) (by intro g; exact Or.inl ⟨by rfl, fun W' hW' => by go_simp⟩) (by exact Or.inl ⟨by rfl, fun W' hW' => by go_simp⟩) (by intro g; exact Or.inl ⟨by rfl, fun W' hW' => by go_simp⟩) (by exact Or.inl ⟨by rfl, fun W' hW' => by go_simp⟩) (by intro g; exact Or.inl ⟨by rfl, fun W' hW' => by go_simp⟩)
        29 (zb 32) (brow D) (by intro a' w' K h; unfold Oper.wp execOp; go_simp; exact h)
        (by intro d h; cases h; simp) (by intro d h; cases h; simp) (by intro d h; cases h; simp) (by intro d h; cases h; simp)
        (by intro g w' K hh hK; simp only [Act.put, List.setIfInBounds_toArray, List.set_cons_zero, List.set_cons_succ] at hK ⊢; exact wp_store_row 29 (.tmp 11) (.tmp 56) rfl g (brow D) rfl rfl 29 (zb 32) hh (unhide HSZ) (by rw [zb_size, brow_size, hd]) (brow_one _) hK)
        (by intro g; exact Or.inl ⟨by rfl, fun W' hW' => by go_simp⟩) ?_
      intro g X hg kX hX
      simp only [Act.put, List.setIfInBounds_toArray, List.set_cons_zero, List.set_cons_succ]
      have HK1 := hide ((unhide HK0).trans kX (by simp))
      have HN1 := hide hX
      have HZ1 := hide (kX.heap (unhide HZ0) (by simp))
      have d0 := kX.cell c0 (by simp)
      have HLT := hide (Nat.lt_of_lt_of_le (lt_of_block (unhide HZ0)) hg : w.heap.size + 1 < g)
      clear kX hX hg c0 c1 HK0 HZ0 HG0 q1 q2
      go_wp2_with fail
      refine wp_rs7 (fun w' => Kept [w.heap.size + 1] X w') (by kernel_rfl) (by kernel_rfl) (by kernel_rfl) (by kernel_rfl) (by kernel_rfl) (by kernel_rfl) (by kernel_rfl) (by kernel_rfl) (by kernel_rfl) (by kernel_rfl) (by kernel_rfl) (by kernel_rfl) (by kernel_rfl) (by kernel_rfl) (by kernel_rfl) (by kernel_rfl) rfl ((Kept.refl _ X).drew)
        (.agg (D.map u8).toArray) (.pointer (some ⟨w.heap.size, 0, none⟩)) (.slice (some ⟨b, o, none⟩) ss.length sc) (.int .i64 L) (.slice (some ⟨b, o, none⟩) L sc) (.slice (some ⟨b, o, none⟩) L sc) _ _ _ _ _ _ (by simp only [Act.put, List.setIfInBounds_toArray, List.set_cons_zero, List.set_cons_succ]; rfl) (by simp only [Act.put, List.setIfInBounds_toArray, List.set_cons_zero, List.set_cons_succ]; rfl) (by simp only [Act.put, List.setIfInBounds_toArray, List.set_cons_zero, List.set_cons_succ]; rfl) (by simp only [Act.put, List.setIfInBounds_toArray, List.set_cons_zero, List.set_cons_succ]; rfl) (by simp only [Act.put, List.setIfInBounds_toArray, List.set_cons_zero, List.set_cons_succ]; rfl) (by simp only [Act.put, List.setIfInBounds_toArray, List.set_cons_zero, List.set_cons_succ]; rfl)
        (by exact yieldsIf_load_mid (by rfl) _ _ rfl g 0 rfl (D.map u8) _ (fun W' hW' => range_row (hW'.heap (unhide HN1) (by simp; have := unhide HLT; omega))) Tryd.underlying29 rfl (by rw [List.length_map, hd]; exact Tryd.size_dig))
        (by exact Or.inl ⟨by rfl, fun W' hW' => by go_simp⟩)
        (by exact Or.inl ⟨by rfl, fun W' hW' => by have h9 := hW'.cell d0 (by simp); go_simp⟩)
        (by exact Or.inl ⟨by rfl, fun W' hW' => by go_simp⟩)
        (by exact Or.inl ⟨by rfl, fun W' hW' => by go_simp⟩)
        (by exact Or.inl ⟨by rfl, fun W' hW' => by go_simp⟩)
        (X.drew.setRow (w.heap.size + 1) (brow D))
        (by intro K hK; exact wp_store_row 29 _ _ rfl (w.heap.size + 1) (brow D) rfl rfl _ (zb 32) (unhide HZ1) (unhide HSZ) (by rw [zb_size, brow_size, hd]) (brow_one _) hK)
        ((Kept.refl _ X).drew.setRow (Or.inl (by simp)) _) ?_
      have HKF := hide ((unhide HK1).drew.setRow (g := w.heap.size + 1) (Or.inr (by omega)) (brow D))
      have HZF := hide (setRow_heap X.drew (w.heap.size + 1) (zb 32) (brow D) 29 (0, 0) (unhide HZ1))
      go_wp2_with fail
      rw [unhide HD, unhide HN]
      refine bodyPost_ret (v := .tuple #[.agg (brow D), .slice (some ⟨b, o, none⟩) L sc]) ?_ rfl ⟨⟨_, rfl, ((unhide HS).less L (by omega)).old (unhide HKF)⟩, unhide HKF⟩
      exact results_cell_tmp rfl _ _ (w.heap.size + 1) _ (brow D) (0, 0) _ rfl (unhide HZF) Tryd.underlying29 rfl (unhide HSZ) _ rfl
end Go.Proofs.YtjafmnemobcipaaDoor
/-
  A drawn region: reads, then operations in one order alone, then an assign. By genbld.py. No program.
-/
namespace Go.Proofs.YtjafmnemobcipaaDoor
open Go Go.RowKit Go.BigFrame
set_option linter.unusedVariables false
set_option linter.unusedSimpArgs false
section
variable {P : Program} {Q : Exit → Act → World → Prop}
theorem wp_bld13 {id : Nat} {o0 o1 o2 o3 o4 o5 o6 o7 o8 o9 o10 o11 o12 : Oper} {a : Act} {w : World} (hm : P.follows .mixedOrders = true) (hs : Region.noSelect #[o0, o1, o2, o3, o4, o5, o6, o7, o8, o9, o10, o11, o12] = true)
    (f0 : Region.free .any #[o0, o1, o2, o3, o4, o5, o6, o7, o8, o9, o10, o11, o12] #[false, false, false, false, false, false, false, false, false, false, false, false, false] 0 = true) (r0 : (Region.ready .any #[o0, o1, o2, o3, o4, o5, o6, o7, o8, o9, o10, o11, o12] #[false, false, false, false, false, false, false, false, false, false, false, false, false]).contains 0 = true)
    (f1 : Region.free .any #[o0, o1, o2, o3, o4, o5, o6, o7, o8, o9, o10, o11, o12] #[true, false, false, false, false, false, false, false, false, false, false, false, false] 1 = true) (r1 : (Region.ready .any #[o0, o1, o2, o3, o4, o5, o6, o7, o8, o9, o10, o11, o12] #[true, false, false, false, false, false, false, false, false, false, false, false, false]).contains 1 = true)
    (f2 : Region.free .any #[o0, o1, o2, o3, o4, o5, o6, o7, o8, o9, o10, o11, o12] #[true, true, false, false, false, false, false, false, false, false, false, false, false] 2 = true) (r2 : (Region.ready .any #[o0, o1, o2, o3, o4, o5, o6, o7, o8, o9, o10, o11, o12] #[true, true, false, false, false, false, false, false, false, false, false, false, false]).contains 2 = true)
    (f3 : Region.free .any #[o0, o1, o2, o3, o4, o5, o6, o7, o8, o9, o10, o11, o12] #[true, true, true, false, false, false, false, false, false, false, false, false, false] 3 = true) (r3 : (Region.ready .any #[o0, o1, o2, o3, o4, o5, o6, o7, o8, o9, o10, o11, o12] #[true, true, true, false, false, false, false, false, false, false, false, false, false]).contains 3 = true)
    (f4 : Region.free .any #[o0, o1, o2, o3, o4, o5, o6, o7, o8, o9, o10, o11, o12] #[true, true, true, true, false, false, false, false, false, false, false, false, false] 4 = true) (r4 : (Region.ready .any #[o0, o1, o2, o3, o4, o5, o6, o7, o8, o9, o10, o11, o12] #[true, true, true, true, false, false, false, false, false, false, false, false, false]).contains 4 = true)
    (f6 : Region.free .any #[o0, o1, o2, o3, o4, o5, o6, o7, o8, o9, o10, o11, o12] #[true, true, true, true, true, false, false, false, false, false, false, false, false] 6 = true) (r6 : (Region.ready .any #[o0, o1, o2, o3, o4, o5, o6, o7, o8, o9, o10, o11, o12] #[true, true, true, true, true, false, false, false, false, false, false, false, false]).contains 6 = true)
    (f7 : Region.free .any #[o0, o1, o2, o3, o4, o5, o6, o7, o8, o9, o10, o11, o12] #[true, true, true, true, true, false, true, false, false, false, false, false, false] 7 = true) (r7 : (Region.ready .any #[o0, o1, o2, o3, o4, o5, o6, o7, o8, o9, o10, o11, o12] #[true, true, true, true, true, false, true, false, false, false, false, false, false]).contains 7 = true)
    (f8 : Region.free .any #[o0, o1, o2, o3, o4, o5, o6, o7, o8, o9, o10, o11, o12] #[true, true, true, true, true, false, true, true, false, false, false, false, false] 8 = true) (r8 : (Region.ready .any #[o0, o1, o2, o3, o4, o5, o6, o7, o8, o9, o10, o11, o12] #[true, true, true, true, true, false, true, true, false, false, false, false, false]).contains 8 = true)
    (f9 : Region.free .any #[o0, o1, o2, o3, o4, o5, o6, o7, o8, o9, o10, o11, o12] #[true, true, true, true, true, false, true, true, true, false, false, false, false] 9 = true) (r9 : (Region.ready .any #[o0, o1, o2, o3, o4, o5, o6, o7, o8, o9, o10, o11, o12] #[true, true, true, true, true, false, true, true, true, false, false, false, false]).contains 9 = true)
    (r5 : Region.ready .any #[o0, o1, o2, o3, o4, o5, o6, o7, o8, o9, o10, o11, o12] #[true, true, true, true, true, false, true, true, true, true, false, false, false] = [5])
    (r10 : Region.ready .any #[o0, o1, o2, o3, o4, o5, o6, o7, o8, o9, o10, o11, o12] #[true, true, true, true, true, true, true, true, true, true, false, false, false] = [10])
    (r11 : Region.ready .any #[o0, o1, o2, o3, o4, o5, o6, o7, o8, o9, o10, o11, o12] #[true, true, true, true, true, true, true, true, true, true, true, false, false] = [11])
    (f12 : Region.free .any #[o0, o1, o2, o3, o4, o5, o6, o7, o8, o9, o10, o11, o12] #[true, true, true, true, true, true, true, true, true, true, true, true, false] 12 = true) (r12 : (Region.ready .any #[o0, o1, o2, o3, o4, o5, o6, o7, o8, o9, o10, o11, o12] #[true, true, true, true, true, true, true, true, true, true, true, true, false]).contains 12 = true)
    (rr : Region.ready .any #[o0, o1, o2, o3, o4, o5, o6, o7, o8, o9, o10, o11, o12] #[true, true, true, true, true, true, true, true, true, true, true, true, true] = []) (g5 : o5.guard = none) (g10 : o10.guard = none) (g11 : o11.guard = none)
    (v0 v1 v2 v3 v4 v6 v7 v8 v9 : Value) (A0 A1 A2 A3 A4 A6 A7 A8 A9 : Act)
    (p0 : a.put o0.dst v0 = A0) (p1 : A0.put o1.dst v1 = A1) (p2 : A1.put o2.dst v2 = A2) (p3 : A2.put o3.dst v3 = A3) (p4 : A3.put o4.dst v4 = A4) (p6 : A4.put o6.dst v6 = A6) (p7 : A6.put o7.dst v7 = A7) (p8 : A7.put o8.dst v8 = A8) (p9 : A8.put o9.dst v9 = A9) 
    (hy0 : YieldsIf P #[o0, o1, o2, o3, o4, o5, o6, o7, o8, o9, o10, o11, o12] (fun w' => Kept [] w w') o0 v0 a)
    (hy1 : YieldsIf P #[o0, o1, o2, o3, o4, o5, o6, o7, o8, o9, o10, o11, o12] (fun w' => Kept [] w w') o1 v1 A0)
    (hy2 : YieldsIf P #[o0, o1, o2, o3, o4, o5, o6, o7, o8, o9, o10, o11, o12] (fun w' => Kept [] w w') o2 v2 A1)
    (hy3 : YieldsIf P #[o0, o1, o2, o3, o4, o5, o6, o7, o8, o9, o10, o11, o12] (fun w' => Kept [] w w') o3 v3 A2)
    (hy4 : YieldsIf P #[o0, o1, o2, o3, o4, o5, o6, o7, o8, o9, o10, o11, o12] (fun w' => Kept [] w w') o4 v4 A3)
    (hy6 : YieldsIf P #[o0, o1, o2, o3, o4, o5, o6, o7, o8, o9, o10, o11, o12] (fun w' => Kept [] w w') o6 v6 A4)
    (hy7 : YieldsIf P #[o0, o1, o2, o3, o4, o5, o6, o7, o8, o9, o10, o11, o12] (fun w' => Kept [] w w') o7 v7 A6)
    (hy8 : YieldsIf P #[o0, o1, o2, o3, o4, o5, o6, o7, o8, o9, o10, o11, o12] (fun w' => Kept [] w w') o8 v8 A7)
    (hy9 : YieldsIf P #[o0, o1, o2, o3, o4, o5, o6, o7, o8, o9, o10, o11, o12] (fun w' => Kept [] w w') o9 v9 A8)
    (hF : o5.wp P A9 w.drew (fun a1 w1 => Kept [] w w1 ∧ o10.wp P a1 w1 (fun a2 w2 => Kept [] w w2 ∧ o11.wp P a2 w2 (fun a3 w3 => Kept [] w w3 ∧ ∃ v, YieldsIf P #[o0, o1, o2, o3, o4, o5, o6, o7, o8, o9, o10, o11, o12] (fun w' => Kept [] w w') o12 v a3 ∧ Q .normal (a3.put o12.dst v) w3) (NoPanic Q)) (NoPanic Q)) (NoPanic Q)) :
    (Code.region id #[o0, o1, o2, o3, o4, o5, o6, o7, o8, o9, o10, o11, o12] true).wp P Q a w := by
  subst p0 p1 p2 p3 p4 p6 p7 p8 p9
  have k00 : Kept [] w w.drew := (Kept.refl [] w).drew
  refine wp_region_noPanic ?_
  refine wp_region_held_drew (S := fun w' => Kept [] w w') hm k00 (fun hH => ?_)
  show wpAnyH P .any #[o0, o1, o2, o3, o4, o5, o6, o7, o8, o9, o10, o11, o12] (NoPanic Q) _ 13 #[false, false, false, false, false, false, false, false, false, false, false, false, false] a w.drew
  refine wpAnyH_take (i := 0) (oi := o0) rfl hs f0 r0 (fun _ _ _ h => h) hy0 k00 ?_
  refine wpAnyH_take (i := 1) (oi := o1) rfl hs f1 r1 (fun _ _ _ h => h) hy1 k00 ?_
  refine wpAnyH_take (i := 2) (oi := o2) rfl hs f2 r2 (fun _ _ _ h => h) hy2 k00 ?_
  refine wpAnyH_take (i := 3) (oi := o3) rfl hs f3 r3 (fun _ _ _ h => h) hy3 k00 ?_
  refine wpAnyH_take (i := 4) (oi := o4) rfl hs f4 r4 (fun _ _ _ h => h) hy4 k00 ?_
  refine wpAnyH_take (i := 6) (oi := o6) rfl hs f6 r6 (fun _ _ _ h => h) hy6 k00 ?_
  refine wpAnyH_take (i := 7) (oi := o7) rfl hs f7 r7 (fun _ _ _ h => h) hy7 k00 ?_
  refine wpAnyH_take (i := 8) (oi := o8) rfl hs f8 r8 (fun _ _ _ h => h) hy8 k00 ?_
  refine wpAnyH_take (i := 9) (oi := o9) rfl hs f9 r9 (fun _ _ _ h => h) hy9 k00 ?_
  refine wpAnyH_ready (rs := [5]) r5 (by simp) (AllReadyH.cons (o := o5) rfl (fun K hK => ?_) AllReadyH.nil)
  have q5 : ∀ y, Region.wanted o5 y = true := fun y => by unfold Region.wanted; rw [g5]
  rw [if_pos (q5 _)]
  refine Oper.wp_mono (fun a1 w1 h1 => hK.out _ _ h1.1 (fun _ => ?_)) hF
  clear hK
  refine wpAnyH_ready (rs := [10]) r10 (by simp) (AllReadyH.cons (o := o10) rfl (fun K hK => ?_) AllReadyH.nil)
  have q10 : ∀ y, Region.wanted o10 y = true := fun y => by unfold Region.wanted; rw [g10]
  rw [if_pos (q10 _)]
  refine Oper.wp_mono (fun a2 w2 h2 => hK.out _ _ h2.1 (fun _ => ?_)) h1.2
  clear hK
  refine wpAnyH_ready (rs := [11]) r11 (by simp) (AllReadyH.cons (o := o11) rfl (fun K hK => ?_) AllReadyH.nil)
  have q11 : ∀ y, Region.wanted o11 y = true := fun y => by unfold Region.wanted; rw [g11]
  rw [if_pos (q11 _)]
  refine Oper.wp_mono (fun a3 w3 h3 => hK.out _ _ h3.1 (fun _ => ?_)) h2.2
  clear hK
  obtain ⟨v, hv, hQ⟩ := h3.2
  refine wpAnyH_take (i := 12) (oi := o12) rfl hs f12 r12 (fun _ _ _ h => h) hv h3.1 ?_
  exact ⟨rr, NoPanic.normal hQ⟩
end
end Go.Proofs.YtjafmnemobcipaaDoor
namespace Go.Proofs.YtjafmnemobcipaaDoor
open Go.RowKit Go.BigFrame
set_option linter.unusedVariables false
set_option linter.unusedSimpArgs false

theorem RdD.upto {w : World} {ao : Option Addr} {n c : Nat} {ds : List (List Nat)} (h : RdD w (.slice ao n c) ds) (m : Nat) (hm : m ≤ n) : RdD w (.slice ao m c) (ds.take m) := by
  obtain ⟨_, _, _, e, h1, h2, h3, h4, h5⟩ := h
  cases e
  refine ⟨_, m, c, rfl, by simp [h1]; omega, by omega, h3, fun d hd => h4 d (List.mem_of_mem_take hd), fun hp => ?_⟩
  obtain ⟨b, off, e, hc⟩ := h5 (by omega)
  refine ⟨b, off, e, fun i hi => ?_⟩
  rw [List.getD_eq_getElem?_getD, List.getElem?_take_of_lt hi, ← List.getD_eq_getElem?_getD]
  exact hc i (by omega)
theorem RdD.from' {w : World} {b off n c m c' off' : Nat} {ds : List (List Nat)} (h : RdD w (.slice (some ⟨b, off, none⟩) n c) ds) (hm : m ≤ n) (hc' : n - m ≤ c' ∧ c' ≤ 9223372036854775807) (ho : m < n → off' = off + m * 32) : RdD w (.slice (some ⟨b, off', none⟩) (n - m) c') (ds.drop m) := by
  obtain ⟨_, _, _, e, h1, h2, h3, h4, h5⟩ := h
  cases e
  refine ⟨_, n - m, c', rfl, by simp [h1], hc'.1, hc'.2, fun d hd => h4 d (List.mem_of_mem_drop hd), fun hp => ?_⟩
  obtain ⟨b', o', e, hc⟩ := h5 (by omega)
  cases e
  have ho2 := ho (by omega)
  subst ho2
  refine ⟨_, _, rfl, fun i hi => ?_⟩
  have h9 := hc (m + i) (by omega)
  rw [show off + (m + i) * 32 = off + m * 32 + i * 32 by omega] at h9
  rw [List.getD_eq_getElem?_getD, List.getElem?_drop, ← List.getD_eq_getElem?_getD]
  exact h9
theorem RdM.three {w : World} {g : Nat} {v1 v2 v3 : Value} {l1 l2 l3 : List (List Nat)} {t : TypeId} (h : w.heap[g]? = some (.cells #[v1, v2, v3] t (0, 0))) (r1 : RdD w v1 l1) (r2 : RdD w v2 l2) (r3 : RdD w v3 l3) : RdM w (.slice (some ⟨g, 0, none⟩) 3 3) [l1, l2, l3] := by
  refine ⟨_, 3, 3, [v1, v2, v3], rfl, rfl, Nat.le_refl _, by omega, fun i hi => ?_, fun _ => ⟨g, 0, rfl, fun i hi => ?_⟩⟩
  · match i, hi with
    | 0, _ => exact r1
    | 1, _ => exact r2
    | 2, _ => exact r3
  · rw [cell_of_row _ g _ _ _ _ h]
    match i, hi with
    | 0, _ => rfl
    | 1, _ => rfl
    | 2, _ => rfl

set_option maxRecDepth 100000 in
set_option maxHeartbeats 4000000 in
theorem climb_any (z : Int) (ks : List Nat) (sv pv : Value) (ss : List (Nat × List (List Nat))) (ps : List (List Nat × List Nat)) (w : World) (hw : widthB z = true) (hks : Dg ks) (hs : RdS w sv ss) (hp : RdK w pv ps) (hT : Tabs w) (hpb : (pairB ps).length ≤ 1000000000000)
    (hkl : ∀ s ∈ ss, s.2.length ≤ 1000000000) (hfit : ∀ i, i < footN ss ps → rankB (ss.getD i (0, [])).1 (atC z ks i : Nat) ≤ (ss.getD i (0, [])).2.length) :
    Calls Tryd.prog 18 #[.int .i64 z, .agg (brow ks), .agg #[sv, pv]] w fun e w' => e = .returned (.agg (brow (cliD z ks ss (footN ss ps) (footD z ss ps)))) ∧ Kept [] w w' := by
  obtain ⟨sa, sn, sc, vs0, rfl, _⟩ := id hs
  obtain ⟨pa, pn, pc, _, _, rfl, _⟩ := id hp
  have HP := hide hp
  have HS := hide hs
  have HT := hide hT
  have HKS := hide hks
  have HFT := hide hfit
  have HKL := hide hkl
  have hk32 := hks.1
  have HSK := hide (Tryd.szD hk32)
  have hz : 1 ≤ z ∧ z ≤ 32 := width_le hw
  clear hp hs hT hks hfit hkl
  have HK0 := hide ((((Kept.refl [] w).alloc (.cells (brow ks) 29)).alloc (.cells #[.slice sa sn sc, .slice pa pn pc] 26)).alloc (.cells (zb 32) 29))
  have HG0 := hide (((Kept.refl [] ((w.alloc (.cells (brow ks) 29)).alloc (.cells #[.slice sa sn sc, .slice pa pn pc] 26))).alloc (.cells (zb 32) 29)).heap (heap_alloc2_old w (.cells (brow ks) 29) (.cells #[.slice sa sn sc, .slice pa pn pc] 26)) (by simp))
  have HZ0 := hide (alloc3_at w (.cells (brow ks) 29) (.cells #[.slice sa sn sc, .slice pa pn pc] 26) (.cells (zb 32) 29))
  obtain ⟨W, hW⟩ : ∃ W, ((w.alloc (.cells (brow ks) 29)).alloc (.cells #[.slice sa sn sc, .slice pa pn pc] 26)).alloc (.cells (zb 32) 29) = W := ⟨_, rfl⟩
  have HP0 := hide (heap_alloc3 w (.cells (brow ks) 29) (.cells #[.slice sa sn sc, .slice pa pn pc] 26) (.cells (zb 32) 29)).2.1
  rw [hW] at HK0 HG0 HZ0 HP0
  go_enter Tryd.func18, Tryd.ntmps18
  go_wp2_with (first | (rw [zb32, hW]) | (refine wpList_load_row rfl 26 _ rfl (w.heap.size + 1) rfl _ #[.slice sa sn sc, .slice pa pn pc] (0, 0) _ (unhide HP0) Tryd.underlying26 rfl (by kernel_rfl) ?_))
  clear hW
  refine Calls.mono (foot_any z _ _ ss ps _ hw ((unhide HS).old (unhide HK0)) ((unhide HP).old (unhide HK0)) ((unhide HT).k (unhide HK0)) hpb) ?_
  rintro e w1 ⟨⟨v1, rfl, hv1⟩, k1⟩
  have HD0 : Hid (Dg (footD z ss ps)) := hide (by
    unfold footD brD
    split
    · exact sumD_dg _ _
    · split
      · exact sumD_dg _ _
      · exact sunD_dg _ _ _)
  obtain ⟨N, hN⟩ : ∃ N, footN ss ps = N := ⟨_, rfl⟩
  obtain ⟨D0, hD⟩ : ∃ D0, footD z ss ps = D0 := ⟨_, rfl⟩
  rw [hD] at HD0
  rw [hN] at hv1 HFT
  rw [hD]
  have HRES := hide (by rw [hN, hD] : cliD z ks ss (footN ss ps) (footD z ss ps) = cliD z ks ss N D0)
  have hd0 := (unhide HD0).1
  have HS0 := hide (Tryd.szD hd0)
  have HNL := hide (by rw [← hN]; unfold footN; split <;> omega : N ≤ ss.length)
  have HKw := hide ((unhide HK0).trans k1 (by simp))
  have HGw := hide (k1.heap (unhide HG0) (by simp))
  have HZw := hide (k1.heap (unhide HZ0) (by simp))
  have HN1 := hide (setRow_heap (w1.alloc (.cells (zb 32) 29)) w1.heap.size (zb 32) (brow D0) 29 (0, 0) (heap_alloc_new _ _))
  have HKX := hide (((Kept.refl [] w1).alloc (.cells (zb 32) 29)).setRow (g := w1.heap.size) (Or.inr (Nat.le_refl _)) (brow D0))
  obtain ⟨va, vn, vc, _, rfl, _⟩ := id hv1
  obtain ⟨hvn, hvc, hvm, h4⟩ := hv1.cells
  have hvN : vn = N := by rw [← hvn, List.length_take]; have := unhide HNL; omega
  subst hvN
  have H4 := hide (fun i (hi : i < vn) => by
    have h9 := h4 i hi
    rw [List.getD_eq_getElem?_getD, List.getElem?_take_of_lt hi, ← List.getD_eq_getElem?_getD] at h9
    exact h9)
  clear k1 HK0 HG0 HZ0 hv1 hN hD h4 hvn HP0
  go_wp2_with (rw [zb32]; refine wpList_store_row rfl 29 _ _ rfl w1.heap.size (brow D0) rfl rfl _ (zb 32) (heap_alloc_new _ _) (unhide HS0) (by rw [zb_size, brow_size, hd0]) (brow_one _) ?_)
  obtain ⟨X, hX⟩ : ∃ X, (w1.alloc (.cells (zb 32) 29)).setRow w1.heap.size (brow D0) = X := ⟨_, rfl⟩
  rw [hX] at HN1 HKX ⊢
  clear hX
  go_loopw [9] (fun t9 wr => ∃ (k : Nat) (d : List Nat), k ≤ vn ∧ t9 = .int .i64 ((k : Int) - 1) ∧ Hid (Dg d) ∧ Hid (cliD z ks ss k d = cliD z ks ss vn D0) ∧ Hid (wr.heap[w1.heap.size]? = some (.cells (brow d) 29 (0, 0))) ∧ Hid (Kept [] w1 wr)) (fun t _ => (intOf t + 1).toNat)
  case atStart => exact ⟨vn, D0, Nat.le_refl _, rfl, HD0, hide rfl, HN1, HKX⟩
  case round =>
    clear HN1 HKX
    obtain ⟨k, d, hk, rfl, HDG, HCL, HN, HK⟩ := hrel
    have hd := (unhide HDG).1
    have HSD := hide (Tryd.szD hd)
    cases k with
    | zero =>
      have HRE := hide (by have h9 := unhide HCL; rw [cliD] at h9; rw [unhide HRES, ← h9] : cliD z ks ss (footN ss ps) (footD z ss ps) = d)
      have HZr := hide ((unhide HK).heap (unhide HZw) (by simp))
      have hm1 : ¬ (0 : Int) ≤ ((0 : Nat) : Int) - 1 := by omega
      go_wp2_with (first
        | (refine wpList_load_row rfl 29 _ rfl w1.heap.size rfl _ (brow d) (0, 0) _ (unhide HN) Tryd.underlying29 rfl (unhide HSD) ?_)
        | (refine wpList_store_row rfl 29 _ _ rfl (w.heap.size + 1 + 1) (brow d) rfl rfl _ (zb 32) (unhide HZr) (unhide HSD) (by rw [zb_size, brow_size, hd]) (brow_one _) ?_))
      have HKF := hide (((unhide HKw).trans (unhide HK) (by simp)).setRow (g := w.heap.size + 1 + 1) (Or.inr (by omega)) (brow d))
      have HZF := hide (setRow_heap wr (w.heap.size + 1 + 1) (zb 32) (brow d) 29 (0, 0) (unhide HZr))
      rw [unhide HRE]
      refine bodyPost_ret (v := .agg (brow d)) ?_ rfl ⟨rfl, unhide HKF⟩
      exact results_cell_row rfl _ _ (w.heap.size + 1 + 1) _ (brow d) (0, 0) _ rfl (unhide HZF) Tryd.underlying29 rfl (unhide HSD)
    | succ k =>
      have hki : ((k + 1 : Nat) : Int) - 1 = (k : Int) := by omega
      rw [hki]
      clear hki
      have hk0 : (0 : Int) ≤ k := by omega
      have hkv : (k : Int) < vn := by omega
      obtain ⟨b, o, v, rfl, e1, e2, hsb, r2⟩ := unhide H4 k (by omega)
      have q1 := (unhide HK).cell e1 (by simp)
      have q2 := (unhide HK).cell e2 (by simp)
      have HX := hide (r2.old (unhide HK))
      have HRK := hide (unhide HFT k (by omega))
      have HKN := hide (unhide HKL (ss.getD k (0, [])) (by
        have h9 := unhide HNL
        rw [List.getD_eq_getElem?_getD, List.getElem?_eq_getElem (by omega)]; exact List.getElem_mem (by omega)))
      have HSTP := hide (by rw [← unhide HCL, cliD] : cliD z ks ss k (brD z (ss.getD k (0, [])).1 ((ss.getD k (0, [])).2.take (rankB (ss.getD k (0, [])).1 (atC z ks k)) ++ d :: (ss.getD k (0, [])).2.drop (rankB (ss.getD k (0, [])).1 (atC z ks k)))) = cliD z ks ss vn D0)
      have HAC := hide (atC_lt z ks k (unhide HKS))
      clear e1 e2 r2 HCL
      generalize ss.getD k (0, []) = s at q1 hsb HX HRK HKN HSTP
      obtain ⟨sb, sk⟩ := s
      simp only at q1 hsb HX HRK HKN HSTP
      obtain ⟨a8, m8, c8, rfl, hm8, _⟩ := id (unhide HX)
      subst hm8
      have HKa := hide ((Kept.refl [] wr).alloc (.cells #[.int .u16 sb, .slice a8 sk.length c8] 43))
      have HNW := hide (heap_alloc_new wr (.cells #[.int .u16 sb, .slice a8 sk.length c8] 43))
      have HGK := hide ((unhide HKa).heap ((unhide HK).heap (unhide HGw) (by simp)) (by simp))
      have hne : ∀ p : Prop, (∀ w', Kept [] (wr.alloc (.cells #[.int .u16 sb, .slice a8 sk.length c8] 43)) w' → p) = p := fun p => propext ⟨fun h => h _ (Kept.refl [] _), fun h _ _ => h⟩
      have HDI := hide (fun w' (hw' : Kept [] (wr.alloc (.cells #[.int .u16 sb, .slice a8 sk.length c8] 43)) w') => (hdigit_any z ks k w' (by omega) (by omega) (unhide HKS)).mono (fun e w2 (h2 : _ ∧ _) => (⟨h2.1, hw'.trans h2.2 (by simp)⟩ : _ ∧ Kept [] (wr.alloc (.cells #[.int .u16 sb, .slice a8 sk.length c8] 43)) w2)))
      have HRA := hide (fun w' (hw' : Kept [] (wr.alloc (.cells #[.int .u16 sb, .slice a8 sk.length c8] 43)) w') => (rank_any sb (atC z ks k : Nat) w' hsb (by have := unhide HAC; omega)).mono (fun e w2 (h2 : _ ∧ _) => (⟨h2.1, hw'.trans h2.2 (by simp)⟩ : _ ∧ Kept [] (wr.alloc (.cells #[.int .u16 sb, .slice a8 sk.length c8] 43)) w2)))
      go_wp2_with fail
      refine wp_region_keep (by kernel_rfl) (by kernel_rfl) ?_
      go_big_quiet_step (fail)
      refine wpQuiet_val rfl (.int .u16 sb) (fun w' hw' => run_load1 40 (.tmp 30) rfl ⟨wr.heap.size, 0, none⟩ rfl w' _ .u16 Tryd.underlying40 (hw'.cell (cell_of_row _ wr.heap.size 0 _ _ _ (unhide HNW)) (by simp))) ?_
      simp only [Act.put, List.setIfInBounds_toArray, List.set_cons_succ, List.set_cons_zero]
      go_big_quiet_step (fail)
      refine wpQuiet_row rfl 29 (.tmp 4) rfl w.heap.size rfl _ (brow ks) (0, 0) _ (fun w' hw' => hw'.heap (unhide HGK) (by simp)) Tryd.underlying29 rfl (unhide HSK) ?_
      simp only [Act.put, List.setIfInBounds_toArray, List.set_cons_succ, List.set_cons_zero]
      go_big_quiet_step (fail)
      go_big_quiet_want
      go_big_quiet_op
      apply Exists.intro
      refine ⟨fun w' hw' => ?_, ?_⟩
      · exact unhide HDI w' hw'
      go_big_quiet_on
      go_big_quiet_want
      go_big_quiet_op
      apply Exists.intro
      refine ⟨fun w' hw' => ?_, ?_⟩
      · exact unhide HRA w' hw'
      go_big_quiet_on
      repeat (go_big_quiet_step (fail))
      refine wpQuiet_nil ?_
      intro w5 hw5
      have HK5 := hide (((unhide HK).trans (unhide HKa) (by simp)).trans hw5 (by simp))
      have HN5 := hide (hw5.heap ((unhide HKa).heap (unhide HN) (by simp)) (by simp))
      have HS5 := hide (hw5.heap (unhide HNW) (by simp))
      have HX5 := hide ((unhide HX).old ((unhide HKa).trans hw5 (by simp)))
      clear hw5 hne q1 q2 HDI HRA HGK HNW HKa
      generalize rankB sb (atC z ks k : Nat) = rk at HRK HSTP ⊢
      go_wp2_with fail
      have hrk := unhide HRK
      have hsk := unhide HKN
      obtain ⟨_, _, _, he9, _, hcc, hcm, _, hcc2⟩ := id (unhide HX5)
      cases he9
      have hrkc : (rk : Int) ≤ c8 := by omega
      have hrk0 : (0 : Int) ≤ rk := by omega
      have hrkl : (rk : Int) ≤ sk.length := by omega
      have hskc : (sk.length : Int) ≤ c8 := by omega
      obtain ⟨V3, V9, h39⟩ : ∃ V3 V9 : Value, (sk.length = 0 ∧ rk = 0 ∧ V3 = .slice a8 0 c8 ∧ V9 = .slice a8 0 c8) ∨ (0 < sk.length ∧ ∃ b' o', a8 = some ⟨b', o', none⟩ ∧ V3 = .slice a8 rk c8 ∧ ((c8 = rk ∧ V9 = .slice a8 (sk.length - rk) 0) ∨ (¬ c8 = rk ∧ V9 = .slice (some ⟨b', o' + rk * 32, none⟩) (sk.length - rk) (c8 - rk)))) := by
        rcases Nat.eq_zero_or_pos sk.length with h9 | h9
        · exact ⟨_, _, Or.inl ⟨h9, by omega, rfl, rfl⟩⟩
        · obtain ⟨b', o', e9, _⟩ := hcc2 h9
          by_cases hc9 : c8 = rk
          · exact ⟨_, _, Or.inr ⟨h9, b', o', e9, rfl, Or.inl ⟨hc9, rfl⟩⟩⟩
          · exact ⟨_, _, Or.inr ⟨h9, b', o', e9, rfl, Or.inr ⟨hc9, rfl⟩⟩⟩
      have HR39 : Hid (RdD w5 V3 (sk.take rk) ∧ RdD w5 V9 (sk.drop rk)) := hide (by
        rcases h39 with ⟨g1, g2, g3, g4⟩ | ⟨g0, b', o', g1, g2, (⟨g3, g4⟩ | ⟨g3, g4⟩)⟩
        · have hnil : sk = [] := List.eq_nil_of_length_eq_zero g1
          rw [g3, g4, g2, hnil]
          have h9 := (unhide HX5)
          rw [hnil] at h9
          exact ⟨h9, h9⟩
        · subst g1
          rw [g2, g4]
          exact ⟨(unhide HX5).upto rk hrk, (unhide HX5).from' hrk ⟨by omega, by omega⟩ (fun h9 => by omega)⟩
        · subst g1
          rw [g2, g4]
          exact ⟨(unhide HX5).upto rk hrk, (unhide HX5).from' hrk ⟨by omega, by omega⟩ (fun _ => rfl)⟩)
      obtain ⟨s3, n3, k3, e3⟩ : ∃ s n c, V3 = .slice s n c := by
        rcases h39 with ⟨g1, g2, g3, g4⟩ | ⟨g0, b', o', g1, g2, _⟩
        · exact ⟨_, _, _, g3⟩
        · exact ⟨_, _, _, g2⟩
      obtain ⟨s9, n9, k9, e9'⟩ : ∃ s n c, V9 = .slice s n c := by
        rcases h39 with ⟨g1, g2, g3, g4⟩ | ⟨g0, b', o', g1, g2, (⟨g3, g4⟩ | ⟨g3, g4⟩)⟩
        · exact ⟨_, _, _, g4⟩
        · exact ⟨_, _, _, g4⟩
        · exact ⟨_, _, _, g4⟩
      have E3 := hide e3
      have E9 := hide e9'
      clear hcc2 e3 e9'
      have c51 : w5.cell? ⟨wr.heap.size, 1, none⟩ = some (.slice a8 sk.length c8) := cell_of_row _ wr.heap.size 1 _ _ _ (unhide HS5)
      refine wp_bld13 (by kernel_rfl) (by kernel_rfl) (by kernel_rfl) (by kernel_rfl) (by kernel_rfl) (by kernel_rfl) (by kernel_rfl) (by kernel_rfl) (by kernel_rfl) (by kernel_rfl) (by kernel_rfl) (by kernel_rfl) (by kernel_rfl) (by kernel_rfl) (by kernel_rfl) (by kernel_rfl) (by kernel_rfl) (by kernel_rfl) (by kernel_rfl) (by kernel_rfl) (by kernel_rfl) (by kernel_rfl) (by kernel_rfl) (by kernel_rfl) (by kernel_rfl) (by kernel_rfl) rfl rfl rfl
        (.pointer (some ⟨wr.heap.size, 1, none⟩)) (.slice a8 sk.length c8) (.int .i64 rk) V3 (.agg (d.map u8).toArray) (.pointer (some ⟨wr.heap.size, 1, none⟩)) (.slice a8 sk.length c8) (.int .i64 rk) V9 _ _ _ _ _ _ _ _ _ (by simp only [Act.put, List.setIfInBounds_toArray, List.set_cons_zero, List.set_cons_succ]; rfl) (by simp only [Act.put, List.setIfInBounds_toArray, List.set_cons_zero, List.set_cons_succ]; rfl) (by simp only [Act.put, List.setIfInBounds_toArray, List.set_cons_zero, List.set_cons_succ]; rfl) (by simp only [Act.put, List.setIfInBounds_toArray, List.set_cons_zero, List.set_cons_succ]; rfl) (by simp only [Act.put, List.setIfInBounds_toArray, List.set_cons_zero, List.set_cons_succ]; rfl) (by simp only [Act.put, List.setIfInBounds_toArray, List.set_cons_zero, List.set_cons_succ]; rfl) (by simp only [Act.put, List.setIfInBounds_toArray, List.set_cons_zero, List.set_cons_succ]; rfl) (by simp only [Act.put, List.setIfInBounds_toArray, List.set_cons_zero, List.set_cons_succ]; rfl) (by simp only [Act.put, List.setIfInBounds_toArray, List.set_cons_zero, List.set_cons_succ]; rfl)
        (by exact Or.inl ⟨by rfl, fun W' hW' => by go_simp⟩)
        (by exact Or.inl ⟨by rfl, fun W' hW' => by have h9 := hW'.cell c51 (by simp); go_simp⟩)
        (by exact Or.inl ⟨by rfl, fun W' hW' => by go_simp⟩)
        (by rcases h39 with ⟨g1, g2, rfl, rfl⟩ | ⟨g0, b', o', rfl, rfl, (⟨g1, rfl⟩ | ⟨g1, rfl⟩)⟩
            · subst g2; exact Or.inl ⟨by rfl, fun W' hW' => by go_simp⟩
            · exact Or.inl ⟨by rfl, fun W' hW' => by go_simp⟩
            · exact Or.inl ⟨by rfl, fun W' hW' => by go_simp⟩)
        (by exact yieldsIf_load_mid (by rfl) _ _ rfl w1.heap.size 0 rfl (d.map u8) _ (fun W' hW' => range_row (hW'.heap (unhide HN5) (by simp))) Tryd.underlying29 rfl (by rw [List.length_map, hd]; exact Tryd.size_dig))
        (by exact Or.inl ⟨by rfl, fun W' hW' => by go_simp⟩)
        (by exact Or.inl ⟨by rfl, fun W' hW' => by have h9 := hW'.cell c51 (by simp); go_simp⟩)
        (by exact Or.inl ⟨by rfl, fun W' hW' => by go_simp⟩)
        (by rcases h39 with ⟨g1, g2, rfl, rfl⟩ | ⟨g0, b', o', rfl, rfl, (⟨g1, rfl⟩ | ⟨g1, rfl⟩)⟩
            · subst g2; exact Or.inl ⟨by rfl, fun W' hW' => by go_simp⟩
            · exact Or.inl ⟨by rfl, fun W' hW' => by go_simp⟩
            · exact Or.inl ⟨by rfl, fun W' hW' => by go_simp⟩)
        ?_
      have e3 := unhide E3
      have e9' := unhide E9
      clear h39 E3 E9
      subst e3
      subst e9'
      have HB1 := hide (heap_alloc_new w5.drew (.cells (brow d) 29))
      unfold Oper.wp execOp
      go_simp
      rw [zb32, one_dig d hd]
      have k7 := (((Kept.refl [] w5).alloc (.cells (brow d) 29)).alloc (.cells #[.slice s3 n3 k3, .slice (some ⟨w5.heap.size, 0, none⟩) 1 1, .slice s9 n9 k9] 41)).drew
      have hA := heap_alloc2_old w5 (.cells (brow d) 29) (.cells #[.slice s3 n3 k3, .slice (some ⟨w5.heap.size, 0, none⟩) 1 1, .slice s9 n9 k9] 41)
      have hB := heap_alloc2_new w5 (.cells (brow d) 29) (.cells #[.slice s3 n3 k3, .slice (some ⟨w5.heap.size, 0, none⟩) 1 1, .slice s9 n9 k9] 41)
      refine ⟨((Kept.refl [] w5).alloc _).drew, k7, ?_⟩
      refine Calls.mono (concat_any _ [sk.take rk, [d], sk.drop rk] _ (RdM.three hB ((unhide HR39).1.old k7) (RdD.one hA (unhide HDG)) ((unhide HR39).2.old k7)) (by simp; omega)) ?_
      rintro e w8 ⟨v8, rfl, r8, k8⟩
      have hfl : [sk.take rk, [d], sk.drop rk].flatten = sk.take rk ++ d :: sk.drop rk := by simp
      rw [hfl] at r8
      have HK8 := hide ((unhide HK5).trans (k7.trans k8 (by simp)) (by simp))
      have HN8 := hide ((k7.trans k8 (by simp)).heap (unhide HN5) (by simp))
      have HS8 := hide ((k7.trans k8 (by simp)).heap (unhide HS5) (by simp))
      have HR8 := hide r8
      refine ⟨k7.trans k8 (by simp), v8, by exact Or.inl ⟨by rfl, fun W' hW' => by go_simp⟩, ?_⟩
      clear k7 k8 hA hB hfl r8 HK5 HN5 HS5 HX5 c51 HR39
      generalize sk.take rk ++ d :: sk.drop rk = kk at HSTP HR8
      have c80 : w8.cell? ⟨wr.heap.size, 0, none⟩ = some (.int .u16 sb) := cell_of_row _ wr.heap.size 0 _ _ _ (unhide HS8)
      clear hrkc hrk0 hrkl hskc hrk hsk hcc hcm
      go_wp2_with fail
      refine Calls.mono (branch_all z sb _ kk _ (by omega) hsb (unhide HR8) ((unhide HT).k ((unhide HKw).trans (unhide HK8) (by simp)))) ?_
      rintro e w9 ⟨rfl, k9'⟩
      have HDG2 := hide (sunD_dg (branchE z sb kk) z (branchB z sb kk))
      unfold brD at HSTP
      generalize sunD (branchE z sb kk) z (branchB z sb kk) = D2 at HSTP HDG2 ⊢
      generalize sunE (branchE z sb kk) z = E2
      have hd2 := (unhide HDG2).1
      have HSZ2 := hide (Tryd.szD hd2)
      have HN9 := hide (k9'.heap (unhide HN8) (by simp))
      have HK9 := hide (((unhide HK8).trans k9' (by simp)).setRow (g := w1.heap.size) (Or.inr (Nat.le_refl _)) (brow D2))
      have HNF := hide (setRow_heap w9 w1.heap.size (brow d) (brow D2) 29 (0, 0) (unhide HN9))
      clear k9' c80 HK8 HN8 HS8 HR8
      go_wp2_with (refine wpList_store_row rfl 29 _ _ rfl w1.heap.size (brow D2) rfl rfl _ (brow d) (unhide HN9) (unhide HSZ2) (by rw [brow_size, brow_size, hd2, hd]) (brow_one _) ?_)
      refine ⟨⟨k, D2, by omega, by go_num, HDG2, HSTP, HNF, HK9⟩, ?_⟩
      simp [intOf]
end Go.Proofs.YtjafmnemobcipaaDoor
namespace Go.Proofs.YtjafmnemobcipaaDoor
open Go.RowKit Go.BigFrame
set_option linter.unusedVariables false
set_option linter.unusedSimpArgs false

theorem cnt_step (b k : Nat) : cnt b (k + 1) = cnt b k + (if b.testBit k then 1 else 0) := by
  unfold cnt
  rw [setB]
  split <;> simp
theorem cnt_mono (b : Nat) {i : Nat} : ∀ {j : Nat}, i ≤ j → cnt b i ≤ cnt b j
  | 0, h => by obtain rfl : i = 0 := by omega
               exact Nat.le_refl _
  | j + 1, h => by
    rcases Nat.lt_or_ge j i with h9 | h9
    · obtain rfl : i = j + 1 := by omega
      exact Nat.le_refl _
    · have := cnt_mono b (j := j) h9
      rw [cnt_step]; omega
theorem rank_fit {b n : Nat} {c : Nat} (h : fitS b n (c : Int) true = true) : rankB b (c : Int) ≤ n := by
  unfold fitS at h
  simp only [Bool.and_eq_true, decide_eq_true_eq, beq_iff_eq] at h
  obtain ⟨_, h1, h2⟩ := h
  unfold hasB at h1
  simp only [Bool.and_eq_true, decide_eq_true_eq, Int.toNat_natCast] at h1
  obtain ⟨_, h3, h4⟩ := h1
  unfold rankB
  rw [if_neg (by omega), if_pos h3, Int.toNat_natCast]
  have h5 := cnt_step b c
  rw [if_pos h4] at h5
  have h6 := cnt_mono b (i := c + 1) (j := 16) (by omega)
  simp at h2
  omega
theorem fitsB_at {z : Int} {ks : List Nat} {ss : List (Nat × List (List Nat))} {m : Nat} : ∀ (n : Nat), fitsB z ks ss m n = true → ∀ i, i < n → fitS (ss.getD i (0, [])).1 (ss.getD i (0, [])).2.length (atC z ks i) (decide (i + 1 < ss.length) || decide (0 < m)) = true
  | 0, _, i, hi => by omega
  | n + 1, h, i, hi => by
    rw [fitsB, Bool.and_eq_true] at h
    rcases Nat.lt_or_ge i n with h9 | h9
    · exact fitsB_at n h.1 i h9
    · obtain rfl : i = n := by omega
      exact h.2
theorem prov_fit {z : Int} {ks : List Nat} {ss : List (Nat × List (List Nat))} {ps : List (List Nat × List Nat)} (h : provB z ks ss ps = true) : ∀ i, i < footN ss ps → rankB (ss.getD i (0, [])).1 (atC z ks i : Nat) ≤ (ss.getD i (0, [])).2.length := by
  intro i hi
  unfold provB at h
  simp only [Bool.and_eq_true] at h
  unfold footN at hi
  have h9 := fitsB_at ss.length h.2.1 i (by split at hi <;> omega)
  have h8 : (decide (i + 1 < ss.length) || decide (0 < ps.length)) = true := by
    split at hi
    · simp; omega
    · simp; omega
  rw [h8] at h9
  exact rank_fit h9
def rtE (z : Int) (key : List Nat) (ss : List (Nat × List (List Nat))) (ps : List (List Nat × List Nat)) : Nat :=
  if hfE z key [] ss = 0 then (if provB z (keyS z key) ss ps then 0 else 10) else hfE z key [] ss
def rtD (z : Int) (key : List Nat) (ss : List (Nat × List (List Nat))) (ps : List (List Nat × List Nat)) : List Nat := if rtE z key ss ps = 0 then rooD z key ss ps else List.replicate 32 0
def rtV (z : Int) (key : List Nat) (ss : List (Nat × List (List Nat))) (ps : List (List Nat × List Nat)) : Option (List Nat) := if rtE z key ss ps = 0 then valH key ps else none

theorem results_cell_tmp3 {P : Program} {fn : Func} {p q r s : Tmp} {ty : TypeId} (h : fn.results = #[.cell p ty, .tmp q, .tmp r, .tmp s]) (tmps : Array Value) (w : World) (g : Nat) (t : TypeId) (cs : Array Value) (fr : Nat × Nat) (d : TypeDesc)
    (hp : tmps.getD p undef = .pointer (some ⟨g, 0, none⟩)) (hg : w.heap[g]? = some (.cells cs t fr))
    (hu : P.underlying ty = some d) (hd : (match d with | .struct _ | .array _ _ => true | _ => false) = true) (hi : (P.info? ty).map (·.size) = some cs.size) (v u x : Value) (hq : tmps.getD q undef = v) (hr : tmps.getD r undef = u) (hs : tmps.getD s undef = x) :
    (results fn tmps).run P w = .ok (.tuple #[.agg cs, v, u, x]) w := by
  have hp' : tmps[p]?.getD undef = .pointer (some ⟨g, 0, none⟩) := by simpa using hp
  have hq' : tmps[q]?.getD undef = v := by simpa using hq
  have hr' : tmps[r]?.getD undef = u := by simpa using hr
  have hs' : tmps[s]?.getD undef = x := by simpa using hs
  simp [results, h, hp', hq', hr', hs', asAddr, run_loadVar_row w g t ty cs fr d hg hu hd hi]
theorem hfE_zero {z : Int} {key : List Nat} {kn : List (List Nat)} {ss : List (Nat × List (List Nat))} (h : hfE z key kn ss = 0) : widthB z = true ∧ key.length ≤ 64 := by
  unfold hfE at h
  by_cases h1 : widthB z = false
  · rw [if_pos h1] at h; omega
  · rw [if_neg h1] at h
    by_cases h2 : 64 < key.length
    · rw [if_pos h2] at h; omega
    · exact ⟨by simpa using h1, by omega⟩
theorem RdD.nil (w : World) : RdD w (.slice none 0 0) [] := ⟨none, 0, 0, rfl, rfl, Nat.le_refl _, by omega, fun d hd => (by cases hd), fun h => by omega⟩

theorem cliD_dg (z : Int) (ks : List Nat) (ss : List (Nat × List (List Nat))) : ∀ (k : Nat) (d : List Nat), Dg d → Dg (cliD z ks ss k d)
  | 0, d, h => h
  | k + 1, d, h => by rw [cliD]; exact cliD_dg z ks ss k _ (sunD_dg _ _ _)
theorem footD_dg (z : Int) (ss : List (Nat × List (List Nat))) (ps : List (List Nat × List Nat)) : Dg (footD z ss ps) := by
  unfold footD brD
  split
  · exact sumD_dg _ _
  · split
    · exact sumD_dg _ _
    · exact sunD_dg _ _ _

set_option maxRecDepth 100000 in
set_option maxHeartbeats 4000000 in
theorem hrootOf_any (z : Int) (kv : Value) (key : List Nat) (sv pv : Value) (ss : List (Nat × List (List Nat))) (ps : List (List Nat × List Nat)) (w : World) (hz : -9223372036854775808 ≤ z ∧ z ≤ 9223372036854775807) (hk : Rd w kv key) (hs : RdS w sv ss) (hp : RdK w pv ps) (hT : Tabs w) (hpb : (pairB ps).length ≤ 1000000000000)
    (hsl : ss.length ≤ 1000000000000) (hpl : ps.length ≤ 1000000000000) (hkl : ∀ s ∈ ss, s.2.length ≤ 1000000000) :
    Calls Tryd.prog 6 #[.int .i64 z, kv, .agg #[sv, pv]] w fun e w' => (∃ v', e = .returned (.tuple #[.agg (brow (rtD z key ss ps)), v', .bool (rtV z key ss ps).isSome, .int .i64 (rtE z key ss ps : Int)]) ∧ Rd w' v' ((rtV z key ss ps).getD [])) ∧ Kept [] w w' := by
  obtain ⟨sa, sn, sc, vs0, rfl, _⟩ := id hs
  obtain ⟨pa, pn, pc, _, _, rfl, _⟩ := id hp
  obtain ⟨ka, kn, kc, rfl, hkn, _⟩ := id hk
  have HP := hide hp
  have HS := hide hs
  have HT := hide hT
  have HKY := hide hk
  have HKL := hide hkl
  clear hp hs hT hkl hk
  have HK0 := hide (((Kept.refl [] w).alloc (.cells #[.slice sa sn sc, .slice pa pn pc] 26)).alloc (.cells (zb 32) 29))
  have HG0 := hide (heap_alloc2_old w (.cells #[.slice sa sn sc, .slice pa pn pc] 26) (.cells (zb 32) 29))
  have HZ0 := hide (heap_alloc2_new w (.cells #[.slice sa sn sc, .slice pa pn pc] 26) (.cells (zb 32) 29))
  obtain ⟨W, hW⟩ : ∃ W, (w.alloc (.cells #[.slice sa sn sc, .slice pa pn pc] 26)).alloc (.cells (zb 32) 29) = W := ⟨_, rfl⟩
  rw [hW] at HK0 HG0 HZ0
  have c0 : W.cell? ⟨w.heap.size, 0, none⟩ = some (.slice sa sn sc) := cell_of_row W w.heap.size 0 _ _ _ (unhide HG0)
  go_enter Tryd.func6, Tryd.ntmps6
  go_wp2_with (first | (rw [zb32, hW]))
  clear hW
  refine Calls.mono (hformed_any z _ key _ ss _ [] _ hz ((unhide HKY).old (unhide HK0) (by simp)) ((unhide HS).old (unhide HK0)) (RdD.nil _)) ?_
  rintro e w1 ⟨rfl, k1⟩
  have HK1 := hide ((unhide HK0).trans k1 (by simp))
  have HG1 := hide (k1.heap (unhide HG0) (by simp))
  have HZ1 := hide (k1.heap (unhide HZ0) (by simp))
  clear k1 c0 HK0 HG0 HZ0
  by_cases hf : hfE z key [] ss = 0
  · have HE := hide (by unfold rtE; rw [if_pos hf] : rtE z key ss ps = if provB z (keyS z key) ss ps then 0 else 10)
    obtain ⟨hw, hk64⟩ := hfE_zero hf
    rw [hf]
    clear hf
    go_wp2_with fail
    refine Calls.mono (key_all z _ key _ hz ((unhide HKY).old (unhide HK1) (by simp)) (by omega) ((unhide HT).k (unhide HK1))) ?_
    rintro e w2 ⟨rfl, k2⟩
    have HKD : keyS z key = sumD z (2 :: key) := rfl
    rw [← HKD]
    clear HKD
    have HDG := hide (keyS_dg z key)
    have hd := (unhide HDG).1
    have HSZ := hide (Tryd.szD hd)
    have kN := (k2.alloc (.cells (zb 32) 29)).setRow (g := w2.heap.size) (Or.inr k2.size) (brow (keyS z key))
    have HN2 := hide (setRow_heap (w2.alloc (.cells (zb 32) 29)) w2.heap.size (zb 32) (brow (keyS z key)) 29 (0, 0) (heap_alloc_new _ _))
    have HK2 := hide ((unhide HK1).trans kN (by simp))
    have HG2 := hide (kN.heap (unhide HG1) (by simp))
    have HZ2 := hide (kN.heap (unhide HZ1) (by simp))
    clear kN k2 HK1 HG1 HZ1
    go_wp2_with (first
      | (rw [zb32]; refine wpList_store_row rfl 29 _ _ rfl w2.heap.size (brow (keyS z key)) rfl rfl _ (zb 32) (heap_alloc_new _ _) (unhide HSZ) (by rw [zb_size, brow_size, hd]) (brow_one _) ?_)
      | (refine wpList_load_row rfl 29 _ rfl w2.heap.size rfl _ (brow (keyS z key)) (0, 0) _ (unhide HN2) Tryd.underlying29 rfl (unhide HSZ) ?_)
      | (refine wpList_load_row rfl 26 _ rfl w.heap.size rfl _ #[.slice sa sn sc, .slice pa pn pc] (0, 0) _ (unhide HG2) Tryd.underlying26 rfl (by kernel_rfl) ?_))
    obtain ⟨X, hX⟩ : ∃ X, (w2.alloc (.cells (zb 32) 29)).setRow w2.heap.size (brow (keyS z key)) = X := ⟨_, rfl⟩
    rw [hX] at HN2 HK2 HG2 HZ2 ⊢
    clear hX
    have HKL2 := hide (fun s (h : s ∈ ss) => Nat.le_trans (unhide HKL s h) (by omega) : ∀ s ∈ ss, s.2.length ≤ 1000000000000)
    refine Calls.mono (proves_any z (keyS z key) _ _ ss ps _ hw (unhide HDG) ((unhide HS).old (unhide HK2)) ((unhide HP).old (unhide HK2)) ((unhide HT).k (unhide HK2)) hsl hpl (unhide HKL2)) ?_
    rintro e w3 ⟨rfl, k3⟩
    have HK3 := hide ((unhide HK2).trans k3 (by simp))
    have HN3 := hide (k3.heap (unhide HN2) (by simp))
    have HG3 := hide (k3.heap (unhide HG2) (by simp))
    have HZ3 := hide (k3.heap (unhide HZ2) (by simp))
    clear k3 HK2 HN2 HG2 HZ2 HKL2
    cases hpv : provB z (keyS z key) ss ps with
    | false =>
      have HE2 := hide (by rw [unhide HE, hpv]; rfl : rtE z key ss ps = 10)
      have HD := hide (by unfold rtD; rw [unhide HE2]; rfl : rtD z key ss ps = List.replicate 32 0)
      have HV := hide (by unfold rtV; rw [unhide HE2]; rfl : rtV z key ss ps = none)
      clear hpv HE
      go_wp2_with (rw [zb32]; refine wpList_store_row rfl 29 _ _ rfl (w.heap.size + 1) (zb 32) rfl rfl _ (zb 32) (unhide HZ3) (by rw [zb_size]; exact Tryd.size_dig) rfl (brow_one _) ?_)
      have HKF := hide ((unhide HK3).setRow (g := w.heap.size + 1) (Or.inr (by omega)) (zb 32))
      have HZF := hide (setRow_heap w3 (w.heap.size + 1) (zb 32) (zb 32) 29 (0, 0) (unhide HZ3))
      rw [unhide HD, unhide HV, unhide HE2]
      refine bodyPost_ret (v := .tuple #[.agg (zb 32), .slice none 0 0, .bool false, .int .i64 10]) ?_ rfl ⟨⟨_, rfl, Rd.nil _⟩, unhide HKF⟩
      exact results_cell_tmp3 rfl _ _ (w.heap.size + 1) _ (zb 32) (0, 0) _ rfl (unhide HZF) Tryd.underlying29 rfl (by rw [zb_size]; exact Tryd.size_dig) _ _ _ rfl rfl rfl
    | true =>
      have HE2 := hide (by rw [unhide HE, hpv]; rfl : rtE z key ss ps = 0)
      have HD := hide (by unfold rtD; rw [unhide HE2]; rfl : rtD z key ss ps = cliD z (keyS z key) ss (footN ss ps) (footD z ss ps))
      have HV := hide (by unfold rtV; rw [unhide HE2]; rfl : rtV z key ss ps = valH key ps)
      have HFIT := hide (prov_fit hpv)
      clear hpv HE
      have c1 : w3.cell? ⟨w.heap.size, 1, none⟩ = some (.slice pa pn pc) := cell_of_row w3 w.heap.size 1 _ _ _ (unhide HG3)
      go_wp2_with fail
      refine Calls.mono (valueOf_any _ _ key ps _ ((unhide HKY).old (unhide HK3) (by simp)) ((unhide HP).old (unhide HK3))) ?_
      rintro e w4 ⟨⟨v4, rfl, hv4, hb4⟩, k4⟩
      have HB4 := hide (fun x hx => by have h9 := hb4 x hx; have h8 := lt_of_block (unhide HZ3); omega : ∀ x ∈ blk v4, x ≠ w.heap.size + 1)
      clear hb4
      have HK4 := hide ((unhide HK3).trans k4 (by simp))
      have HN4 := hide (k4.heap (unhide HN3) (by simp))
      have HG4 := hide (k4.heap (unhide HG3) (by simp))
      have HZ4 := hide (k4.heap (unhide HZ3) (by simp))
      have HV4 := hide hv4
      clear k4 hv4 c1 HK3 HN3 HG3 HZ3
      obtain ⟨av, nv, cv, rfl, _⟩ := id (unhide HV4)
      go_wp2_with (first
        | (refine wpList_load_row rfl 29 _ rfl w2.heap.size rfl _ (brow (keyS z key)) (0, 0) _ (unhide HN4) Tryd.underlying29 rfl (unhide HSZ) ?_)
        | (refine wpList_load_row rfl 26 _ rfl w.heap.size rfl _ #[.slice sa sn sc, .slice pa pn pc] (0, 0) _ (unhide HG4) Tryd.underlying26 rfl (by kernel_rfl) ?_))
      refine Calls.mono (climb_any z (keyS z key) _ _ ss ps _ hw (unhide HDG) ((unhide HS).old (unhide HK4)) ((unhide HP).old (unhide HK4)) ((unhide HT).k (unhide HK4)) hpb (unhide HKL) (unhide HFIT)) ?_
      rintro e w5 ⟨rfl, k5⟩
      have HDG2 := hide (cliD_dg z (keyS z key) ss (footN ss ps) _ (footD_dg z ss ps))
      generalize cliD z (keyS z key) ss (footN ss ps) (footD z ss ps) = D at HD HDG2 ⊢
      have hd2 := (unhide HDG2).1
      have HSZ2 := hide (Tryd.szD hd2)
      have HZ5 := hide (k5.heap (unhide HZ4) (by simp))
      have HV5 := hide ((unhide HV4).old k5 (by simp))
      have HKF := hide (((unhide HK4).trans k5 (by simp)).setRow (g := w.heap.size + 1) (Or.inr (by omega)) (brow D))
      have HVF := hide ((unhide HV5).kept ((Kept.refl [w.heap.size + 1] w5).setRow (g := w.heap.size + 1) (Or.inl (by simp)) (brow D)) (fun x hx => by simp; exact unhide HB4 x hx))
      have HZF := hide (setRow_heap w5 (w.heap.size + 1) (zb 32) (brow D) 29 (0, 0) (unhide HZ5))
      clear k5 HZ4 HN4 HG4 HK4
      go_wp2_with (refine wpList_store_row rfl 29 _ _ rfl (w.heap.size + 1) (brow D) rfl rfl _ (zb 32) (unhide HZ5) (unhide HSZ2) (by rw [zb_size, brow_size, hd2]) (brow_one _) ?_)
      rw [unhide HD, unhide HV, unhide HE2]
      refine bodyPost_ret (v := .tuple #[.agg (brow D), .slice av nv cv, .bool (valH key ps).isSome, .int .i64 0]) ?_ rfl ⟨⟨_, rfl, unhide HVF⟩, unhide HKF⟩
      exact results_cell_tmp3 rfl _ _ (w.heap.size + 1) _ (brow D) (0, 0) _ rfl (unhide HZF) Tryd.underlying29 rfl (unhide HSZ2) _ _ _ rfl rfl rfl
  · have HE := hide (by unfold rtE; rw [if_neg hf] : rtE z key ss ps = hfE z key [] ss)
    have HD := hide (by unfold rtD; rw [unhide HE, if_neg hf] : rtD z key ss ps = List.replicate 32 0)
    have HV := hide (by unfold rtV; rw [unhide HE, if_neg hf] : rtV z key ss ps = none)
    have hf' : ¬ (hfE z key [] ss : Int) = 0 := by omega
    generalize hfE z key [] ss = F at HE hf' ⊢
    clear hf
    go_wp2_with (first
      | (rw [zb32]; refine wpList_store_row rfl 29 _ _ rfl (w.heap.size + 1) (zb 32) rfl rfl _ (zb 32) (unhide HZ1) (by rw [zb_size]; exact Tryd.size_dig) rfl (brow_one _) ?_))
    have HKF := hide ((unhide HK1).setRow (g := w.heap.size + 1) (Or.inr (by omega)) (zb 32))
    have HZF := hide (setRow_heap w1 (w.heap.size + 1) (zb 32) (zb 32) 29 (0, 0) (unhide HZ1))
    rw [unhide HD, unhide HV, unhide HE]
    refine bodyPost_ret (v := .tuple #[.agg (zb 32), .slice none 0 0, .bool false, .int .i64 (F : Int)]) ?_ rfl ⟨⟨_, rfl, Rd.nil _⟩, unhide HKF⟩
    exact results_cell_tmp3 rfl _ _ (w.heap.size + 1) _ (zb 32) (0, 0) _ rfl (unhide HZF) Tryd.underlying29 rfl (by rw [zb_size]; exact Tryd.size_dig) _ _ _ rfl rfl rfl
end Go.Proofs.YtjafmnemobcipaaDoor
namespace Go.Proofs.YtjafmnemobcipaaDoor
open Go.RowKit Go.BigFrame
set_option linter.unusedVariables false
set_option linter.unusedSimpArgs false

def ckE (z : Int) (root key : List Nat) (ss : List (Nat × List (List Nat))) (ps : List (List Nat × List Nat)) : Nat :=
  if hfE z key [root] ss = 0 then (if rtE z key ss ps = 0 then (if rtD z key ss ps = root then 0 else 10) else rtE z key ss ps) else hfE z key [root] ss
def ckV (z : Int) (root key : List Nat) (ss : List (Nat × List (List Nat))) (ps : List (List Nat × List Nat)) : Option (List Nat) := if ckE z root key ss ps = 0 then rtV z key ss ps else none
theorem rtD_dg (z : Int) (key : List Nat) (ss : List (Nat × List (List Nat))) (ps : List (List Nat × List Nat)) : Dg (rtD z key ss ps) := by
  unfold rtD
  split
  · exact cliD_dg _ _ _ _ _ (footD_dg _ _ _)
  · exact ⟨by simp, fun x hx => by simp at hx; omega⟩

set_option maxRecDepth 100000 in
set_option maxHeartbeats 4000000 in
theorem hcheck_any (z : Int) (root : List Nat) (kv : Value) (key : List Nat) (sv pv : Value) (ss : List (Nat × List (List Nat))) (ps : List (List Nat × List Nat)) (w : World) (hz : -9223372036854775808 ≤ z ∧ z ≤ 9223372036854775807) (hr : Dg root) (hk : Rd w kv key) (hs : RdS w sv ss) (hp : RdK w pv ps) (hT : Tabs w) (hpb : (pairB ps).length ≤ 1000000000000)
    (hsl : ss.length ≤ 1000000000000) (hpl : ps.length ≤ 1000000000000) (hkl : ∀ s ∈ ss, s.2.length ≤ 1000000000) :
    Calls Tryd.prog 12 #[.int .i64 z, .agg (brow root), kv, .agg #[sv, pv]] w fun e w' => (∃ v', e = .returned (.tuple #[v', .bool (ckV z root key ss ps).isSome, .int .i64 (ckE z root key ss ps : Int)]) ∧ Rd w' v' ((ckV z root key ss ps).getD [])) ∧ Kept [] w w' := by
  obtain ⟨sa, sn, sc, vs0, rfl, _⟩ := id hs
  obtain ⟨pa, pn, pc, _, _, rfl, _⟩ := id hp
  obtain ⟨ka, kn, kc, rfl, hkn, _⟩ := id hk
  have HP := hide hp
  have HS := hide hs
  have HT := hide hT
  have HKY := hide hk
  have HKL := hide hkl
  have HR := hide hr
  have hrl := hr.1
  have HSR := hide (Tryd.szD hrl)
  clear hp hs hT hkl hk hr
  have HK0 := hide (((Kept.refl [] w).alloc (.cells (brow root) 29)).alloc (.cells #[.slice sa sn sc, .slice pa pn pc] 26))
  have HR0 := hide (heap_alloc2_old w (.cells (brow root) 29) (.cells #[.slice sa sn sc, .slice pa pn pc] 26))
  have HG0 := hide (heap_alloc2_new w (.cells (brow root) 29) (.cells #[.slice sa sn sc, .slice pa pn pc] 26))
  obtain ⟨W, hW⟩ : ∃ W, (w.alloc (.cells (brow root) 29)).alloc (.cells #[.slice sa sn sc, .slice pa pn pc] 26) = W := ⟨_, rfl⟩
  rw [hW] at HK0 HG0 HR0
  have c0 : W.cell? ⟨w.heap.size + 1, 0, none⟩ = some (.slice sa sn sc) := cell_of_row W (w.heap.size + 1) 0 _ _ _ (unhide HG0)
  go_enter Tryd.func12, Tryd.ntmps12
  have hfs : ∀ A : Array Value, (List.foldl (fun cs x => cs.setIfInBounds x.snd x.fst) A (List.map u8 root).zipIdx).size = A.size := fun A => fold_size _ A 0
  go_wp2_with (refine wpList_load_mid rfl 29 _ rfl w.heap.size 0 rfl (root.map u8) _ (range_row (unhide HR0)) Tryd.underlying29 rfl (by rw [List.length_map, hrl]; exact Tryd.size_dig) ?_)
  rw [zb32, one_dig root hrl]
  clear hW hfs
  have kA := (Kept.refl [] W).alloc (.cells (brow root) 29)
  have HRD := hide (RdD.one (heap_alloc_new W (.cells (brow root) 29)) (unhide HR))
  have HKA := hide ((unhide HK0).trans kA (by simp))
  have HRA := hide (kA.heap (unhide HR0) (by simp))
  have HGA := hide (kA.heap (unhide HG0) (by simp))
  refine Calls.mono (hformed_any z _ key _ ss _ [root] _ hz ((unhide HKY).old (unhide HKA) (by simp)) ((unhide HS).old (unhide HKA)) (unhide HRD)) ?_
  rintro e w1 ⟨rfl, k1⟩
  have HK1 := hide ((unhide HKA).trans k1 (by simp))
  have HR1 := hide (k1.heap (unhide HRA) (by simp))
  have HG1 := hide (k1.heap (unhide HGA) (by simp))
  clear k1 kA c0 HK0 HR0 HG0 HRD HKA HRA HGA
  by_cases hf : hfE z key [root] ss = 0
  · have HE := hide (by unfold ckE; rw [if_pos hf] : ckE z root key ss ps = if rtE z key ss ps = 0 then (if rtD z key ss ps = root then 0 else 10) else rtE z key ss ps)
    rw [hf]
    clear hf
    go_wp2_with (refine wpList_load_row rfl 26 _ rfl (w.heap.size + 1) rfl _ #[.slice sa sn sc, .slice pa pn pc] (0, 0) _ (unhide HG1) Tryd.underlying26 rfl (by kernel_rfl) ?_)
    refine Calls.mono (hrootOf_any z _ key _ _ ss ps _ hz ((unhide HKY).old (unhide HK1) (by simp)) ((unhide HS).old (unhide HK1)) ((unhide HP).old (unhide HK1)) ((unhide HT).k (unhide HK1)) hpb hsl hpl (unhide HKL)) ?_
    rintro e w2 ⟨⟨v2, rfl, hv2⟩, k2⟩
    have HDG := hide (rtD_dg z key ss ps)
    have HV2 := hide hv2
    obtain ⟨av, nv, cv, rfl, _⟩ := id hv2
    clear hv2
    have HCV := hide (by unfold ckV; rfl : ckV z root key ss ps = if ckE z root key ss ps = 0 then rtV z key ss ps else none)
    generalize rtD z key ss ps = D at HDG HE ⊢
    generalize rtE z key ss ps = E at HE ⊢
    generalize rtV z key ss ps = V at HV2 HCV ⊢
    have hd := (unhide HDG).1
    have HSZ := hide (Tryd.szD hd)
    have kN := (k2.alloc (.cells (zb 32) 29)).setRow (g := w2.heap.size) (Or.inr k2.size) (brow D)
    have HN2 := hide (setRow_heap (w2.alloc (.cells (zb 32) 29)) w2.heap.size (zb 32) (brow D) 29 (0, 0) (heap_alloc_new _ _))
    have HK2 := hide ((unhide HK1).trans kN (by simp))
    have HR2 := hide (kN.heap (unhide HR1) (by simp))
    have HVN := hide ((unhide HV2).old (((Kept.refl [] w2).alloc (.cells (zb 32) 29)).setRow (g := w2.heap.size) (Or.inr (Nat.le_refl _)) (brow D)) (by simp))
    clear kN k2 HK1 HR1 HG1 HV2
    by_cases hE : E = 0
    · have heq := fun W => dig_eq W D root hd hrl
      by_cases hDr : D = root
      · have HE2 := hide (by rw [unhide HE, if_pos hE, if_pos hDr] : ckE z root key ss ps = 0)
        rw [decide_eq_true hDr] at heq
        subst hE
        clear hDr
        go_wp2_with (first
          | (rw [zb32]; refine wpList_store_row rfl 29 _ _ rfl w2.heap.size (brow D) rfl rfl _ (zb 32) (heap_alloc_new _ _) (unhide HSZ) (by rw [zb_size, brow_size, hd]) (brow_one _) ?_)
          | (refine wpList_load_row rfl 29 _ rfl w2.heap.size rfl _ (brow D) (0, 0) _ (unhide HN2) Tryd.underlying29 rfl (unhide HSZ) ?_)
          | (refine wpList_load_row rfl 29 _ rfl w.heap.size rfl _ (brow root) (0, 0) _ (unhide HR2) Tryd.underlying29 rfl (unhide HSR) ?_))
        go_ret3
        rw [unhide HCV, unhide HE2]
        exact ⟨⟨_, rfl, unhide HVN⟩, unhide HK2⟩
      · have HE2 := hide (by rw [unhide HE, if_pos hE, if_neg hDr] : ckE z root key ss ps = 10)
        rw [decide_eq_false hDr] at heq
        subst hE
        clear hDr
        go_wp2_with (first
          | (rw [zb32]; refine wpList_store_row rfl 29 _ _ rfl w2.heap.size (brow D) rfl rfl _ (zb 32) (heap_alloc_new _ _) (unhide HSZ) (by rw [zb_size, brow_size, hd]) (brow_one _) ?_)
          | (refine wpList_load_row rfl 29 _ rfl w2.heap.size rfl _ (brow D) (0, 0) _ (unhide HN2) Tryd.underlying29 rfl (unhide HSZ) ?_)
          | (refine wpList_load_row rfl 29 _ rfl w.heap.size rfl _ (brow root) (0, 0) _ (unhide HR2) Tryd.underlying29 rfl (unhide HSR) ?_))
        go_ret3
        rw [unhide HCV, unhide HE2]
        exact ⟨⟨_, rfl, Rd.nil _⟩, unhide HK2⟩
    · have HE2 := hide (by rw [unhide HE, if_neg hE] : ckE z root key ss ps = E)
      have hE' : ¬ (E : Int) = 0 := by omega
      have HEE := hide hE
      clear hE
      go_wp2_with (rw [zb32]; refine wpList_store_row rfl 29 _ _ rfl w2.heap.size (brow D) rfl rfl _ (zb 32) (heap_alloc_new _ _) (unhide HSZ) (by rw [zb_size, brow_size, hd]) (brow_one _) ?_)
      go_ret3
      rw [unhide HCV, unhide HE2, if_neg (unhide HEE)]
      exact ⟨⟨_, rfl, Rd.nil _⟩, unhide HK2⟩
  · have HE := hide (by unfold ckE; rw [if_neg hf] : ckE z root key ss ps = hfE z key [root] ss)
    have HV := hide (by unfold ckV; rw [unhide HE, if_neg hf] : ckV z root key ss ps = none)
    have hf' : ¬ (hfE z key [root] ss : Int) = 0 := by omega
    generalize hfE z key [root] ss = F at HE hf' ⊢
    clear hf
    go_wp2
    go_ret3
    rw [unhide HV, unhide HE]
    exact ⟨⟨_, rfl, Rd.nil _⟩, unhide HK1⟩
end Go.Proofs.YtjafmnemobcipaaDoor
namespace Go.Proofs.YtjafmnemobcipaaDoor
open Go.RowKit Go.BigFrame
set_option linter.unusedVariables false
set_option linter.unusedSimpArgs false

theorem cutL_idem {k : Nat} {d : List Nat} (hk : k ≤ 32) (hd : d.length = 32) : cutL k (cutL k d) = cutL k d := by
  unfold cutL
  rw [List.take_append_of_le_length (by simp; omega), List.take_take, Nat.min_self]
theorem sumD_form {z : Int} (hw : widthB z = true) (p : List Nat) : formB z (sumD z p) = true := by
  unfold formB sumD
  have h := width_le hw
  rw [hw]
  simp only [if_true, Bool.true_and]
  rw [cutL_idem (by omega) (hash_len _)]
  simp
theorem zero_form {z : Int} (hw : widthB z = true) : formB z (List.replicate 32 0) = true := by
  unfold formB cutL
  have h := width_le hw
  rw [hw]
  simp only [Bool.true_and, decide_eq_true_eq, List.take_replicate]
  rw [List.replicate_append_replicate, show min z.toNat 32 + (32 - z.toNat) = 32 by omega]
theorem sunD_form {z : Int} (hw : widthB z = true) (e : Nat) (p : List Nat) : formB z (sunD e z p) = true := by
  unfold sunD
  split
  · exact sumD_form hw p
  · exact zero_form hw
theorem footD_form {z : Int} (hw : widthB z = true) (ss : List (Nat × List (List Nat))) (ps : List (List Nat × List Nat)) : formB z (footD z ss ps) = true := by
  unfold footD brD
  split
  · exact sumD_form hw _
  · split
    · exact sumD_form hw _
    · exact sunD_form hw _ _
theorem cliD_form {z : Int} (hw : widthB z = true) (ks : List Nat) (ss : List (Nat × List (List Nat))) : ∀ (k : Nat) (d : List Nat), formB z d = true → formB z (cliD z ks ss k d) = true
  | 0, d, h => h
  | k + 1, d, h => by rw [cliD]; exact cliD_form hw ks ss k _ (sunD_form hw _ _)
theorem rtE_zero {z : Int} {key : List Nat} {ss : List (Nat × List (List Nat))} {ps : List (List Nat × List Nat)} (h : rtE z key ss ps = 0) : hfE z key [] ss = 0 ∧ provB z (keyS z key) ss ps = true := by
  unfold rtE at h
  by_cases hf : hfE z key [] ss = 0
  · rw [if_pos hf] at h
    cases hp : provB z (keyS z key) ss ps with
    | true => exact ⟨hf, rfl⟩
    | false => rw [hp] at h; simp at h
  · rw [if_neg hf] at h; exact absurd h hf
theorem rtE_mk {z : Int} {key : List Nat} {ss : List (Nat × List (List Nat))} {ps : List (List Nat × List Nat)} (hf : hfE z key [] ss = 0) (hp : provB z (keyS z key) ss ps = true) : rtE z key ss ps = 0 := by
  unfold rtE; rw [if_pos hf, hp]; rfl
theorem rtD_form {z : Int} {key : List Nat} {ss : List (Nat × List (List Nat))} {ps : List (List Nat × List Nat)} (h : rtE z key ss ps = 0) : formB z (rtD z key ss ps) = true := by
  have hw := (hfE_zero (rtE_zero h).1).1
  unfold rtD
  rw [if_pos h]
  exact cliD_form hw _ _ _ _ (footD_form hw _ _)
theorem hfE_root {z : Int} {key r : List Nat} {ss : List (Nat × List (List Nat))} (h : hfE z key [] ss = 0) : hfE z key [r] ss = if formB z r then 0 else 3 := by
  obtain ⟨h1, h2⟩ := hfE_zero h
  unfold hfE at h ⊢
  rw [if_neg (by simp [h1]), if_neg (by omega)] at h ⊢
  have h3 : ss.all (fun s => s.2.all (formB z)) = true := by
    by_cases h9 : ss.all (fun s => s.2.all (formB z)) = true
    · exact h9
    · rw [if_neg (by simpa using h9)] at h; omega
  rw [h3]
  simp
theorem agr_bad {z : Int} {key r : List Nat} {ss : List (Nat × List (List Nat))} {ps : List (List Nat × List Nat)} (h : rtE z key ss ps ≠ 0) : ckE z r key ss ps ≠ 0 := by
  unfold ckE
  split
  · first
    | exact h
    | (rw [if_neg h]; exact h)
  · assumption
theorem agr_eq {z : Int} {key r : List Nat} {ss : List (Nat × List (List Nat))} {ps : List (List Nat × List Nat)} (h : rtE z key ss ps = 0) : ckE z r key ss ps = if formB z r then (if rtD z key ss ps = r then 0 else 10) else 3 := by
  unfold ckE
  rw [hfE_root (rtE_zero h).1]
  cases formB z r with
  | true => simp [h]
  | false => simp
theorem agr_ok {z : Int} {key : List Nat} {ss : List (Nat × List (List Nat))} {ps : List (List Nat × List Nat)} (h : rtE z key ss ps = 0) : ckE z (rtD z key ss ps) key ss ps = 0 := by
  rw [agr_eq h, rtD_form h]; simp

theorem comL_le (a b : List Nat) : ∀ (n i m : Nat), m ≤ i + n → ((∀ j, i ≤ j → j < m → dgt a j = dgt b j) → m ≤ comL a b n i ∨ m ≤ i) ∧ (m ≤ comL a b n i → ∀ j, i ≤ j → j < m → dgt a j = dgt b j)
  | 0, i, m, hm => ⟨fun _ => Or.inr (by omega), fun _ j h1 h2 => by omega⟩
  | n + 1, i, m, hm => by
    rw [comL]
    by_cases h : dgt a i = dgt b i
    · rw [if_pos h]
      have ih := comL_le a b n (i + 1) m (by omega)
      refine ⟨fun h9 => ?_, fun h9 j h1 h2 => ?_⟩
      · rcases ih.1 (fun j h1 h2 => h9 j (by omega) h2) with h8 | h8
        · exact Or.inl h8
        · have : i + 1 ≤ comL a b n (i + 1) := by
            clear ih h9 h8 hm
            induction n generalizing i with
            | zero => exact Nat.le_refl _
            | succ n ih2 =>
              rw [comL]
              split
              · rename_i h7
                exact Nat.le_of_succ_le (ih2 (i + 1) h7)
              · exact Nat.le_refl _
          omega
      · rcases Nat.lt_or_ge i j with h8 | h8
        · exact ih.2 h9 j (by omega) h2
        · obtain rfl : i = j := by omega
          exact h
    · rw [if_neg h]
      refine ⟨fun h9 => ?_, fun h9 j h1 h2 => by omega⟩
      rcases Nat.lt_or_ge i m with h8 | h8
      · exact absurd (h9 i (Nat.le_refl _) h8) h
      · exact Or.inr h8
theorem comC_digits {z : Int} {a b : List Nat} (hw : widthB z = true) (ha : formB z a = true) (hb : formB z b = true) {m : Nat} (hm : m ≤ 2 * z.toNat) : m ≤ comC z a b ↔ ∀ j, j < m → dgt a j = dgt b j := by
  have h0 : formedE z [a, b] = 0 := by simp [formedE, hw, ha, hb]
  unfold comC
  rw [if_pos h0]
  have h := comL_le a b (2 * z.toNat) 0 m (by omega)
  refine ⟨fun h9 j hj => h.2 h9 j (Nat.zero_le _) hj, fun h9 => ?_⟩
  rcases h.1 (fun j _ hj => h9 j hj) with h8 | h8 <;> omega
theorem atC_dgt {z : Int} {d : List Nat} (hw : widthB z = true) (hd : formB z d = true) {i : Nat} (hi : i < 2 * z.toNat) : atC z d (i : Int) = dgt d i := by
  have h9 := width_le hw
  have h0 : atE z d (i : Int) = 0 := by
    unfold atE
    rw [if_neg (by simp [hw]; omega), hd]
    rfl
  unfold atC
  rw [if_pos h0, Int.toNat_natCast]
theorem keyS_form {z : Int} (hw : widthB z = true) (key : List Nat) : formB z (keyS z key) = true := sumD_form hw _
theorem fitsB_same {z : Int} {ks kt : List Nat} {ss : List (Nat × List (List Nat))} {m : Nat} : ∀ (n : Nat), (∀ i, i < n → atC z ks (i : Int) = atC z kt (i : Int)) → fitsB z ks ss m n = fitsB z kt ss m n
  | 0, _ => rfl
  | n + 1, h => by rw [fitsB, fitsB, fitsB_same n (fun i hi => h i (by omega)), h n (by omega)]
theorem cliD_same {z : Int} {ks kt : List Nat} {ss : List (Nat × List (List Nat))} : ∀ (n : Nat) (d : List Nat), (∀ i, i < n → atC z ks (i : Int) = atC z kt (i : Int)) → cliD z ks ss n d = cliD z kt ss n d
  | 0, _, _ => rfl
  | n + 1, d, h => by rw [cliD, cliD, h n (by omega), cliD_same n _ (fun i hi => h i (by omega))]
theorem oth {z : Int} {key other : List Nat} {ss : List (Nat × List (List Nat))} {ps : List (List Nat × List Nat)} (h : rtE z key ss ps = 0) (hp : ps.length ≠ 0) (ho : other.length ≤ 64) (hc : ss.length ≤ comC z (keyS z key) (keyS z other)) : rtE z other ss ps = 0 ∧ rtD z other ss ps = rtD z key ss ps := by
  obtain ⟨hf, hv⟩ := rtE_zero h
  obtain ⟨hw, hk⟩ := hfE_zero hf
  have fa := keyS_form hw key
  have fb := keyS_form hw other
  have hv0 := hv
  unfold provB at hv
  simp only [Bool.and_eq_true, decide_eq_true_eq] at hv
  obtain ⟨hl, hfit, hrest⟩ := hv
  have hd := (comC_digits hw fa fb hl).1 hc
  have hat : ∀ i, i < ss.length → atC z (keyS z other) (i : Int) = atC z (keyS z key) (i : Int) := fun i hi => by
    rw [atC_dgt hw fb (by omega), atC_dgt hw fa (by omega), hd i hi]
  have hfo : hfE z other [] ss = 0 := by
    unfold hfE at hf ⊢
    rw [if_neg (by simp [hw]), if_neg (by omega)] at hf ⊢
    exact hf
  have hpo : provB z (keyS z other) ss ps = true := by
    unfold provB
    simp only [Bool.and_eq_true, decide_eq_true_eq]
    refine ⟨hl, by rw [fitsB_same ss.length hat]; exact hfit, ?_⟩
    rw [decide_eq_false hp] at hrest ⊢
    simp only [Bool.false_or, Bool.and_eq_true] at hrest ⊢
    refine ⟨hrest.1, hrest.2.1, ?_⟩
    have h9 := hrest.2.2
    unfold hanB at h9 ⊢
    simp only [Bool.and_eq_true, decide_eq_true_eq] at h9 ⊢
    refine ⟨h9.1, ?_⟩
    have fc := keyS_form hw (ps.getD 0 ([], [])).1
    have h8 := (comC_digits hw fc fa hl).1 h9.2
    exact (comC_digits hw fc fb hl).2 (fun j hj => (h8 j hj).trans (hd j hj))
  have ho2 := rtE_mk hfo hpo
  refine ⟨ho2, ?_⟩
  unfold rtD rooD
  rw [if_pos h, if_pos ho2]
  exact cliD_same _ _ (fun i hi => hat i (by unfold footN at hi; split at hi <;> omega))
end Go.Proofs.YtjafmnemobcipaaDoor
namespace Go.Proofs.YtjafmnemobcipaaDoor
open Go.RowKit Go.BigFrame
set_option linter.unusedVariables false
set_option linter.unusedSimpArgs false

theorem sumD_nat {k : Nat} (hk : 1 ≤ k ∧ k ≤ 32) (p : List Nat) : sumD (k : Int) p = cutL k (hash p) := by
  unfold sumD
  rw [if_pos (by simp [widthB]; omega), Int.toNat_natCast]

set_option maxRecDepth 100000 in
set_option maxHeartbeats 1000000 in
theorem refBucket_any (k : Nat) (v : Value) (ps : List (List Nat × List Nat)) (w : World) (hk : 1 ≤ k ∧ k ≤ 32) (h : RdK w v ps) (hl : (pairB ps).length ≤ 1000000000000) :
    Calls Tryd.prog 13 #[.int .i64 k, v] w fun e w' => e = .returned (.agg (brow (sumD (k : Int) (buckB ps)))) ∧ Kept [] w w' := by
  rw [sumD_nat hk]
  have hcl := cutL_len k (hash (buckB ps)) hk.2 (hash_len _)
  obtain ⟨C, hC⟩ : ∃ C, cutL k (hash (buckB ps)) = C := ⟨_, rfl⟩
  rw [hC] at hcl ⊢
  have HC := hide hC
  clear hC
  have HH := hide h
  clear h
  have HS2 := hide (by rw [brow_size, hcl]; exact Tryd.size_dig : (Tryd.prog.info? 29).map (·.size) = some (brow C).size)
  go_enter Tryd.func13, Tryd.ntmps13
  go_wp2_with fail
  rw [zb32]
  have k0 := (Kept.refl [] w).alloc (.cells (zb 32) 29)
  refine Calls.mono (refBucketInput_any _ ps _ ((unhide HH).old k0) hl) ?_
  rintro e w1 ⟨v1, rfl, r1, k1⟩
  have HR1 := hide r1
  have HK1 := hide (k0.trans k1 (by simp))
  have HZ1 := hide (k1.heap (heap_alloc_new w (.cells (zb 32) 29)) (by simp))
  clear r1 k1 k0
  go_wp2_with fail
  refine Calls.mono (refCut_any k _ _ _ (unhide HR1) hk.2) ?_
  rintro e w2 ⟨rfl, k2⟩
  rw [unhide HC]
  have HZ2 := hide (k2.heap (unhide HZ1) (by simp))
  have HK2 := hide ((unhide HK1).trans k2 (by simp))
  clear k2
  go_wp2_with (refine wpList_store_row rfl 29 _ _ rfl w.heap.size (brow C) rfl rfl _ (zb 32) (unhide HZ2) (unhide HS2) (by rw [zb_size, brow_size, hcl]) (brow_one _) ?_)
  refine bodyPost_ret (v := .agg (brow C)) ?_ rfl ⟨rfl, (unhide HK2).setRow (by simp) _⟩
  exact results_cell_row rfl _ _ w.heap.size _ (brow C) (0, 0) _ rfl (setRow_heap _ _ _ _ _ _ (unhide HZ2)) Tryd.underlying29 rfl (unhide HS2)

end Go.Proofs.YtjafmnemobcipaaDoor
/-
  Laws for drawn regions, by genreg.py. No program.
-/
namespace Go.Proofs.YtjafmnemobcipaaDoor
open Go Go.RowKit Go.BigFrame
set_option linter.unusedVariables false
set_option linter.unusedSimpArgs false
section
variable {P : Program} {Q : Exit → Act → World → Prop}
theorem wp_haw14 {id : Nat} {o0 o1 o2 o3 o4 o5 o6 o7 o8 o9 o10 o11 o12 o13 : Oper} {a : Act} {w : World} (hm : P.follows .mixedOrders = true) (hs : Region.noSelect #[o0, o1, o2, o3, o4, o5, o6, o7, o8, o9, o10, o11, o12, o13] = true)
    (f0 : Region.free .any #[o0, o1, o2, o3, o4, o5, o6, o7, o8, o9, o10, o11, o12, o13] #[false, false, false, false, false, false, false, false, false, false, false, false, false, false] 0 = true) (r0 : (Region.ready .any #[o0, o1, o2, o3, o4, o5, o6, o7, o8, o9, o10, o11, o12, o13] #[false, false, false, false, false, false, false, false, false, false, false, false, false, false]).contains 0 = true)
    (f1 : Region.free .any #[o0, o1, o2, o3, o4, o5, o6, o7, o8, o9, o10, o11, o12, o13] #[true, false, false, false, false, false, false, false, false, false, false, false, false, false] 1 = true) (r1 : (Region.ready .any #[o0, o1, o2, o3, o4, o5, o6, o7, o8, o9, o10, o11, o12, o13] #[true, false, false, false, false, false, false, false, false, false, false, false, false, false]).contains 1 = true)
    (f5 : Region.free .any #[o0, o1, o2, o3, o4, o5, o6, o7, o8, o9, o10, o11, o12, o13] #[true, true, false, false, false, false, false, false, false, false, false, false, false, false] 5 = true) (r5 : (Region.ready .any #[o0, o1, o2, o3, o4, o5, o6, o7, o8, o9, o10, o11, o12, o13] #[true, true, false, false, false, false, false, false, false, false, false, false, false, false]).contains 5 = true)
    (q_ : Region.ready .any #[o0, o1, o2, o3, o4, o5, o6, o7, o8, o9, o10, o11, o12, o13] #[true, true, false, false, false, true, false, false, false, false, false, false, false, false] = [2, 3])
    (q2_ : Region.ready .any #[o0, o1, o2, o3, o4, o5, o6, o7, o8, o9, o10, o11, o12, o13] #[true, true, true, false, false, true, false, false, false, false, false, false, false, false] = [3])
    (q3_ : Region.ready .any #[o0, o1, o2, o3, o4, o5, o6, o7, o8, o9, o10, o11, o12, o13] #[true, true, false, true, false, true, false, false, false, false, false, false, false, false] = [2, 4])
    (q2_3_ : Region.ready .any #[o0, o1, o2, o3, o4, o5, o6, o7, o8, o9, o10, o11, o12, o13] #[true, true, true, true, false, true, false, false, false, false, false, false, false, false] = [4])
    (q3_4_ : Region.ready .any #[o0, o1, o2, o3, o4, o5, o6, o7, o8, o9, o10, o11, o12, o13] #[true, true, false, true, true, true, false, false, false, false, false, false, false, false] = [2])
    (q2_3_4_ : Region.ready .any #[o0, o1, o2, o3, o4, o5, o6, o7, o8, o9, o10, o11, o12, o13] #[true, true, true, true, true, true, false, false, false, false, false, false, false, false] = [6])
    (f2_3_4_6_7 : Region.free .any #[o0, o1, o2, o3, o4, o5, o6, o7, o8, o9, o10, o11, o12, o13] #[true, true, true, true, true, true, true, false, false, false, false, false, false, false] 7 = true) (r2_3_4_6_7 : (Region.ready .any #[o0, o1, o2, o3, o4, o5, o6, o7, o8, o9, o10, o11, o12, o13] #[true, true, true, true, true, true, true, false, false, false, false, false, false, false]).contains 7 = true)
    (f2_3_4_6_8 : Region.free .any #[o0, o1, o2, o3, o4, o5, o6, o7, o8, o9, o10, o11, o12, o13] #[true, true, true, true, true, true, true, true, false, false, false, false, false, false] 8 = true) (r2_3_4_6_8 : (Region.ready .any #[o0, o1, o2, o3, o4, o5, o6, o7, o8, o9, o10, o11, o12, o13] #[true, true, true, true, true, true, true, true, false, false, false, false, false, false]).contains 8 = true)
    (f2_3_4_6_9 : Region.free .any #[o0, o1, o2, o3, o4, o5, o6, o7, o8, o9, o10, o11, o12, o13] #[true, true, true, true, true, true, true, true, true, false, false, false, false, false] 9 = true) (r2_3_4_6_9 : (Region.ready .any #[o0, o1, o2, o3, o4, o5, o6, o7, o8, o9, o10, o11, o12, o13] #[true, true, true, true, true, true, true, true, true, false, false, false, false, false]).contains 9 = true)
    (f2_3_4_6_10 : Region.free .any #[o0, o1, o2, o3, o4, o5, o6, o7, o8, o9, o10, o11, o12, o13] #[true, true, true, true, true, true, true, true, true, true, false, false, false, false] 10 = true) (r2_3_4_6_10 : (Region.ready .any #[o0, o1, o2, o3, o4, o5, o6, o7, o8, o9, o10, o11, o12, o13] #[true, true, true, true, true, true, true, true, true, true, false, false, false, false]).contains 10 = true)
    (f2_3_4_6_11 : Region.free .any #[o0, o1, o2, o3, o4, o5, o6, o7, o8, o9, o10, o11, o12, o13] #[true, true, true, true, true, true, true, true, true, true, true, false, false, false] 11 = true) (r2_3_4_6_11 : (Region.ready .any #[o0, o1, o2, o3, o4, o5, o6, o7, o8, o9, o10, o11, o12, o13] #[true, true, true, true, true, true, true, true, true, true, true, false, false, false]).contains 11 = true)
    (f2_3_4_6_12 : Region.free .any #[o0, o1, o2, o3, o4, o5, o6, o7, o8, o9, o10, o11, o12, o13] #[true, true, true, true, true, true, true, true, true, true, true, true, false, false] 12 = true) (r2_3_4_6_12 : (Region.ready .any #[o0, o1, o2, o3, o4, o5, o6, o7, o8, o9, o10, o11, o12, o13] #[true, true, true, true, true, true, true, true, true, true, true, true, false, false]).contains 12 = true)
    (f2_3_4_6_13 : Region.free .any #[o0, o1, o2, o3, o4, o5, o6, o7, o8, o9, o10, o11, o12, o13] #[true, true, true, true, true, true, true, true, true, true, true, true, true, false] 13 = true) (r2_3_4_6_13 : (Region.ready .any #[o0, o1, o2, o3, o4, o5, o6, o7, o8, o9, o10, o11, o12, o13] #[true, true, true, true, true, true, true, true, true, true, true, true, true, false]).contains 13 = true)
    (q2_3_4_6_ : Region.ready .any #[o0, o1, o2, o3, o4, o5, o6, o7, o8, o9, o10, o11, o12, o13] #[true, true, true, true, true, true, true, true, true, true, true, true, true, true] = [])
    (g2 : o2.guard = none)    (g3 : o3.guard = none)    (g4 : o4.guard = none)    (g6 : o6.guard = none)
    (ne3_2 : ∀ d, o3.dst = some d → o2.dst ≠ some d)
    (ne4_2 : ∀ d, o4.dst = some d → o2.dst ≠ some d)
    (v0 v1 v5 : Value) (A0 A1 A2 : Act)
    (S : World → Prop)
    (I_ : World → Prop)
    (I2_ : Value → World → Prop)
    (I3_ : Value → World → Prop)
    (I2_3_ : Value → Value → World → Prop)
    (I3_4_ : Value → Value → World → Prop)
    (I2_3_4_ : Value → Value → Value → World → Prop)
    (I2_3_4_6_ : Value → Value → Value → Value → World → Prop)
    (v7 : Value → Value)
    (v8 : Value → Value)
    (v9 : Value → Value)
    (v10 : Value → Value)
    (v11 : Value → Value)
    (v12 : Value → Value)
    (v13 : Value → Value)
    (p0 : a.put o0.dst v0 = A0) (hy0 : YieldsIf P #[o0, o1, o2, o3, o4, o5, o6, o7, o8, o9, o10, o11, o12, o13] S o0 v0 a)
    (p1 : A0.put o1.dst v1 = A1) (hy1 : YieldsIf P #[o0, o1, o2, o3, o4, o5, o6, o7, o8, o9, o10, o11, o12, o13] S o1 v1 A0)
    (p5 : A1.put o5.dst v5 = A2) (hy5 : YieldsIf P #[o0, o1, o2, o3, o4, o5, o6, o7, o8, o9, o10, o11, o12, o13] S o5 v5 A1)
    (i0 : I_ w.drew)
    (hIS : (∀ w', I_  w' → S w') ∧ (∀ (u2 : Value) w', I2_ u2 w' → S w') ∧ (∀ (u3 : Value) w', I3_ u3 w' → S w') ∧ (∀ (u2 u3 : Value) w', I2_3_ u2 u3 w' → S w') ∧ (∀ (u3 u4 : Value) w', I3_4_ u3 u4 w' → S w') ∧ (∀ (u2 u3 u4 : Value) w', I2_3_4_ u2 u3 u4 w' → S w') ∧ (∀ (u2 u3 u4 u6 : Value) w', I2_3_4_6_ u2 u3 u4 u6 w' → S w'))
    (s_2 : ∀ w', I_  w' → ∀ K : Act → World → Prop, (∀ (u2 : Value) w2, I2_ u2 w2 → K (A2.put o2.dst u2) w2) → o2.wp P A2 w' K (NoPanic Q))
    (s_3 : ∀ w', I_  w' → ∀ K : Act → World → Prop, (∀ (u3 : Value) w2, I3_ u3 w2 → K (A2.put o3.dst u3) w2) → o3.wp P A2 w' K (NoPanic Q))
    (s2_3 : ∀ (u2 : Value) w', I2_ u2 w' → ∀ K : Act → World → Prop, (∀ (u3 : Value) w2, I2_3_ u2 u3 w2 → K ((A2.put o2.dst u2).put o3.dst u3) w2) → o3.wp P (A2.put o2.dst u2) w' K (NoPanic Q))
    (s3_2 : ∀ (u3 : Value) w', I3_ u3 w' → ∀ K : Act → World → Prop, (∀ (u2 : Value) w2, I2_3_ u2 u3 w2 → K ((A2.put o3.dst u3).put o2.dst u2) w2) → o2.wp P (A2.put o3.dst u3) w' K (NoPanic Q))
    (s3_4 : ∀ (u3 : Value) w', I3_ u3 w' → ∀ K : Act → World → Prop, (∀ (u4 : Value) w2, I3_4_ u3 u4 w2 → K ((A2.put o3.dst u3).put o4.dst u4) w2) → o4.wp P (A2.put o3.dst u3) w' K (NoPanic Q))
    (s2_3_4 : ∀ (u2 u3 : Value) w', I2_3_ u2 u3 w' → ∀ K : Act → World → Prop, (∀ (u4 : Value) w2, I2_3_4_ u2 u3 u4 w2 → K (((A2.put o2.dst u2).put o3.dst u3).put o4.dst u4) w2) → o4.wp P ((A2.put o2.dst u2).put o3.dst u3) w' K (NoPanic Q))
    (s3_4_2 : ∀ (u3 u4 : Value) w', I3_4_ u3 u4 w' → ∀ K : Act → World → Prop, (∀ (u2 : Value) w2, I2_3_4_ u2 u3 u4 w2 → K (((A2.put o3.dst u3).put o4.dst u4).put o2.dst u2) w2) → o2.wp P ((A2.put o3.dst u3).put o4.dst u4) w' K (NoPanic Q))
    (s2_3_4_6 : ∀ (u2 u3 u4 : Value) w', I2_3_4_ u2 u3 u4 w' → ∀ K : Act → World → Prop, (∀ (u6 : Value) w2, I2_3_4_6_ u2 u3 u4 u6 w2 → K ((((A2.put o2.dst u2).put o3.dst u3).put o4.dst u4).put o6.dst u6) w2) → o6.wp P (((A2.put o2.dst u2).put o3.dst u3).put o4.dst u4) w' K (NoPanic Q))
    (y2_3_4_6_7 : ∀ (u2 u3 u4 u6 : Value) w', I2_3_4_6_ u2 u3 u4 u6 w' → YieldsIf P #[o0, o1, o2, o3, o4, o5, o6, o7, o8, o9, o10, o11, o12, o13] S o7 (v7 u6) ((((A2.put o2.dst u2).put o3.dst u3).put o4.dst u4).put o6.dst u6))
    (y2_3_4_6_8 : ∀ (u2 u3 u4 u6 : Value) w', I2_3_4_6_ u2 u3 u4 u6 w' → YieldsIf P #[o0, o1, o2, o3, o4, o5, o6, o7, o8, o9, o10, o11, o12, o13] S o8 (v8 u6) (((((A2.put o2.dst u2).put o3.dst u3).put o4.dst u4).put o6.dst u6).put o7.dst (v7 u6)))
    (y2_3_4_6_9 : ∀ (u2 u3 u4 u6 : Value) w', I2_3_4_6_ u2 u3 u4 u6 w' → YieldsIf P #[o0, o1, o2, o3, o4, o5, o6, o7, o8, o9, o10, o11, o12, o13] S o9 (v9 u6) ((((((A2.put o2.dst u2).put o3.dst u3).put o4.dst u4).put o6.dst u6).put o7.dst (v7 u6)).put o8.dst (v8 u6)))
    (y2_3_4_6_10 : ∀ (u2 u3 u4 u6 : Value) w', I2_3_4_6_ u2 u3 u4 u6 w' → YieldsIf P #[o0, o1, o2, o3, o4, o5, o6, o7, o8, o9, o10, o11, o12, o13] S o10 (v10 u6) (((((((A2.put o2.dst u2).put o3.dst u3).put o4.dst u4).put o6.dst u6).put o7.dst (v7 u6)).put o8.dst (v8 u6)).put o9.dst (v9 u6)))
    (y2_3_4_6_11 : ∀ (u2 u3 u4 u6 : Value) w', I2_3_4_6_ u2 u3 u4 u6 w' → YieldsIf P #[o0, o1, o2, o3, o4, o5, o6, o7, o8, o9, o10, o11, o12, o13] S o11 (v11 u6) ((((((((A2.put o2.dst u2).put o3.dst u3).put o4.dst u4).put o6.dst u6).put o7.dst (v7 u6)).put o8.dst (v8 u6)).put o9.dst (v9 u6)).put o10.dst (v10 u6)))
    (y2_3_4_6_12 : ∀ (u2 u3 u4 u6 : Value) w', I2_3_4_6_ u2 u3 u4 u6 w' → YieldsIf P #[o0, o1, o2, o3, o4, o5, o6, o7, o8, o9, o10, o11, o12, o13] S o12 (v12 u6) (((((((((A2.put o2.dst u2).put o3.dst u3).put o4.dst u4).put o6.dst u6).put o7.dst (v7 u6)).put o8.dst (v8 u6)).put o9.dst (v9 u6)).put o10.dst (v10 u6)).put o11.dst (v11 u6)))
    (y2_3_4_6_13 : ∀ (u2 u3 u4 u6 : Value) w', I2_3_4_6_ u2 u3 u4 u6 w' → YieldsIf P #[o0, o1, o2, o3, o4, o5, o6, o7, o8, o9, o10, o11, o12, o13] S o13 (v13 u6) ((((((((((A2.put o2.dst u2).put o3.dst u3).put o4.dst u4).put o6.dst u6).put o7.dst (v7 u6)).put o8.dst (v8 u6)).put o9.dst (v9 u6)).put o10.dst (v10 u6)).put o11.dst (v11 u6)).put o12.dst (v12 u6)))
    (h : ∀ (u2 u3 u4 u6 : Value) w', I2_3_4_6_ u2 u3 u4 u6 w' → Q .normal (((((((((((A2.put o2.dst u2).put o3.dst u3).put o4.dst u4).put o6.dst u6).put o7.dst (v7 u6)).put o8.dst (v8 u6)).put o9.dst (v9 u6)).put o10.dst (v10 u6)).put o11.dst (v11 u6)).put o12.dst (v12 u6)).put o13.dst (v13 u6)) w') :
    (Code.region id #[o0, o1, o2, o3, o4, o5, o6, o7, o8, o9, o10, o11, o12, o13] true).wp P Q a w := by
  subst p0 p1 p5
  obtain ⟨z_, z2_, z3_, z2_3_, z3_4_, z2_3_4_, z2_3_4_6_⟩ := hIS
  refine wp_region_noPanic ?_
  refine wp_region_held_drew (S := S) hm (z_ _ i0) (fun hH => ?_)
  show wpAnyH P .any #[o0, o1, o2, o3, o4, o5, o6, o7, o8, o9, o10, o11, o12, o13] (NoPanic Q) S 14 #[false, false, false, false, false, false, false, false, false, false, false, false, false, false] a w.drew
  refine wpAnyH_take (i := 0) (oi := o0) rfl hs f0 r0 (fun _ _ _ h => h) hy0 hH ?_
  refine wpAnyH_take (i := 1) (oi := o1) rfl hs f1 r1 (fun _ _ _ h => h) hy1 hH ?_
  refine wpAnyH_take (i := 5) (oi := o5) rfl hs f5 r5 (fun _ _ _ h => h) hy5 hH ?_
  generalize (((a.put o0.dst v0).put o1.dst v1).put o5.dst v5) = B at *
  have wa2 : ∀ y, Region.wanted o2 y = true := fun y => by unfold Region.wanted; rw [g2]
  have wa3 : ∀ y, Region.wanted o3 y = true := fun y => by unfold Region.wanted; rw [g3]
  have wa4 : ∀ y, Region.wanted o4 y = true := fun y => by unfold Region.wanted; rw [g4]
  have wa6 : ∀ y, Region.wanted o6 y = true := fun y => by unfold Region.wanted; rw [g6]
  have t2_3_4_6_ : ∀ (u2 u3 u4 u6 : Value) w', I2_3_4_6_ u2 u3 u4 u6 w' → wpAnyH P .any #[o0, o1, o2, o3, o4, o5, o6, o7, o8, o9, o10, o11, o12, o13] (NoPanic Q) S 0 #[true, true, true, true, true, true, true, true, true, true, true, true, true, true] (((((((((((B.put o2.dst u2).put o3.dst u3).put o4.dst u4).put o6.dst u6).put o7.dst (v7 u6)).put o8.dst (v8 u6)).put o9.dst (v9 u6)).put o10.dst (v10 u6)).put o11.dst (v11 u6)).put o12.dst (v12 u6)).put o13.dst (v13 u6)) w' := by
    intro u2 u3 u4 u6 w0 i0
    exact ⟨q2_3_4_6_, NoPanic.normal (h u2 u3 u4 u6 w0 i0)⟩
  have t2_3_4_ : ∀ (u2 u3 u4 : Value) w', I2_3_4_ u2 u3 u4 w' → wpAnyH P .any #[o0, o1, o2, o3, o4, o5, o6, o7, o8, o9, o10, o11, o12, o13] (NoPanic Q) S 8 #[true, true, true, true, true, true, false, false, false, false, false, false, false, false] (((B.put o2.dst u2).put o3.dst u3).put o4.dst u4) w' := by
    intro u2 u3 u4 w0 i0
    refine wpAnyH_ready (rs := [6]) q2_3_4_ (by simp) (AllReadyH.cons (o := o6) rfl (fun K hK => ?_) AllReadyH.nil)
    · rw [if_pos (wa6 _)]
      refine s2_3_4_6 u2 u3 u4 w0 i0 K (fun u6 w1 i1 => hK.out _ _ (z2_3_4_6_ u2 u3 u4 u6 w1 i1) (fun _ => ?_))
      clear hK
      refine wpAnyH_take (i := 7) (oi := o7) rfl hs f2_3_4_6_7 r2_3_4_6_7 (fun _ _ _ h => h) (y2_3_4_6_7 u2 u3 u4 u6 w1 i1) (z2_3_4_6_ u2 u3 u4 u6 w1 i1) ?_
      refine wpAnyH_take (i := 8) (oi := o8) rfl hs f2_3_4_6_8 r2_3_4_6_8 (fun _ _ _ h => h) (y2_3_4_6_8 u2 u3 u4 u6 w1 i1) (z2_3_4_6_ u2 u3 u4 u6 w1 i1) ?_
      refine wpAnyH_take (i := 9) (oi := o9) rfl hs f2_3_4_6_9 r2_3_4_6_9 (fun _ _ _ h => h) (y2_3_4_6_9 u2 u3 u4 u6 w1 i1) (z2_3_4_6_ u2 u3 u4 u6 w1 i1) ?_
      refine wpAnyH_take (i := 10) (oi := o10) rfl hs f2_3_4_6_10 r2_3_4_6_10 (fun _ _ _ h => h) (y2_3_4_6_10 u2 u3 u4 u6 w1 i1) (z2_3_4_6_ u2 u3 u4 u6 w1 i1) ?_
      refine wpAnyH_take (i := 11) (oi := o11) rfl hs f2_3_4_6_11 r2_3_4_6_11 (fun _ _ _ h => h) (y2_3_4_6_11 u2 u3 u4 u6 w1 i1) (z2_3_4_6_ u2 u3 u4 u6 w1 i1) ?_
      refine wpAnyH_take (i := 12) (oi := o12) rfl hs f2_3_4_6_12 r2_3_4_6_12 (fun _ _ _ h => h) (y2_3_4_6_12 u2 u3 u4 u6 w1 i1) (z2_3_4_6_ u2 u3 u4 u6 w1 i1) ?_
      refine wpAnyH_take (i := 13) (oi := o13) rfl hs f2_3_4_6_13 r2_3_4_6_13 (fun _ _ _ h => h) (y2_3_4_6_13 u2 u3 u4 u6 w1 i1) (z2_3_4_6_ u2 u3 u4 u6 w1 i1) ?_
      exact t2_3_4_6_ u2 u3 u4 u6 w1 i1
  have t3_4_ : ∀ (u3 u4 : Value) w', I3_4_ u3 u4 w' → wpAnyH P .any #[o0, o1, o2, o3, o4, o5, o6, o7, o8, o9, o10, o11, o12, o13] (NoPanic Q) S 9 #[true, true, false, true, true, true, false, false, false, false, false, false, false, false] ((B.put o3.dst u3).put o4.dst u4) w' := by
    intro u3 u4 w0 i0
    refine wpAnyH_ready (rs := [2]) q3_4_ (by simp) (AllReadyH.cons (o := o2) rfl (fun K hK => ?_) AllReadyH.nil)
    · rw [if_pos (wa2 _)]
      refine s3_4_2 u3 u4 w0 i0 K (fun u2 w1 i1 => hK.out _ _ (z2_3_4_ u2 u3 u4 w1 i1) (fun _ => ?_))
      clear hK
      rw [Act.put_comm _ _ _ ne4_2]
      rw [Act.put_comm _ _ _ ne3_2]
      exact t2_3_4_ u2 u3 u4 w1 i1
  have t2_3_ : ∀ (u2 u3 : Value) w', I2_3_ u2 u3 w' → wpAnyH P .any #[o0, o1, o2, o3, o4, o5, o6, o7, o8, o9, o10, o11, o12, o13] (NoPanic Q) S 9 #[true, true, true, true, false, true, false, false, false, false, false, false, false, false] ((B.put o2.dst u2).put o3.dst u3) w' := by
    intro u2 u3 w0 i0
    refine wpAnyH_ready (rs := [4]) q2_3_ (by simp) (AllReadyH.cons (o := o4) rfl (fun K hK => ?_) AllReadyH.nil)
    · rw [if_pos (wa4 _)]
      refine s2_3_4 u2 u3 w0 i0 K (fun u4 w1 i1 => hK.out _ _ (z2_3_4_ u2 u3 u4 w1 i1) (fun _ => ?_))
      clear hK
      exact t2_3_4_ u2 u3 u4 w1 i1
  have t3_ : ∀ (u3 : Value) w', I3_ u3 w' → wpAnyH P .any #[o0, o1, o2, o3, o4, o5, o6, o7, o8, o9, o10, o11, o12, o13] (NoPanic Q) S 10 #[true, true, false, true, false, true, false, false, false, false, false, false, false, false] (B.put o3.dst u3) w' := by
    intro u3 w0 i0
    refine wpAnyH_ready (rs := [2, 4]) q3_ (by simp) (AllReadyH.cons (o := o2) rfl (fun K hK => ?_) (AllReadyH.cons (o := o4) rfl (fun K hK => ?_) AllReadyH.nil))
    · rw [if_pos (wa2 _)]
      refine s3_2 u3 w0 i0 K (fun u2 w1 i1 => hK.out _ _ (z2_3_ u2 u3 w1 i1) (fun _ => ?_))
      clear hK
      rw [Act.put_comm _ _ _ ne3_2]
      exact t2_3_ u2 u3 w1 i1
    · rw [if_pos (wa4 _)]
      refine s3_4 u3 w0 i0 K (fun u4 w1 i1 => hK.out _ _ (z3_4_ u3 u4 w1 i1) (fun _ => ?_))
      clear hK
      exact t3_4_ u3 u4 w1 i1
  have t2_ : ∀ (u2 : Value) w', I2_ u2 w' → wpAnyH P .any #[o0, o1, o2, o3, o4, o5, o6, o7, o8, o9, o10, o11, o12, o13] (NoPanic Q) S 10 #[true, true, true, false, false, true, false, false, false, false, false, false, false, false] (B.put o2.dst u2) w' := by
    intro u2 w0 i0
    refine wpAnyH_ready (rs := [3]) q2_ (by simp) (AllReadyH.cons (o := o3) rfl (fun K hK => ?_) AllReadyH.nil)
    · rw [if_pos (wa3 _)]
      refine s2_3 u2 w0 i0 K (fun u3 w1 i1 => hK.out _ _ (z2_3_ u2 u3 w1 i1) (fun _ => ?_))
      clear hK
      exact t2_3_ u2 u3 w1 i1
  have t_ : ∀ w', I_  w' → wpAnyH P .any #[o0, o1, o2, o3, o4, o5, o6, o7, o8, o9, o10, o11, o12, o13] (NoPanic Q) S 11 #[true, true, false, false, false, true, false, false, false, false, false, false, false, false] B w' := by
    intro w0 i0
    refine wpAnyH_ready (rs := [2, 3]) q_ (by simp) (AllReadyH.cons (o := o2) rfl (fun K hK => ?_) (AllReadyH.cons (o := o3) rfl (fun K hK => ?_) AllReadyH.nil))
    · rw [if_pos (wa2 _)]
      refine s_2  w0 i0 K (fun u2 w1 i1 => hK.out _ _ (z2_ u2 w1 i1) (fun _ => ?_))
      clear hK
      exact t2_ u2 w1 i1
    · rw [if_pos (wa3 _)]
      refine s_3  w0 i0 K (fun u3 w1 i1 => hK.out _ _ (z3_ u3 w1 i1) (fun _ => ?_))
      clear hK
      exact t3_ u3 w1 i1
  exact t_ w.drew i0

end
end Go.Proofs.YtjafmnemobcipaaDoor
/-
  One operation: a call, by its contract.
-/
namespace Go.Proofs.YtjafmnemobcipaaDoor
open Go Go.RowKit Go.BigFrame
set_option linter.unusedVariables false
set_option linter.unusedSimpArgs false

theorem wp_callN {o : Oper} {a : Act} {w : World} {K : Act → World → Prop} {Q : Exit → Act → World → Prop} {f : FuncId} {xs : Array Operand} {ts : Array TypeId} (ho : o.op = .call { callee := .value (.func f), args := xs, argTypes := ts })
    (hcl : ∀ args W, (callFunc f args).run Tryd.prog W = .ok (.enter f args) W) (us : List Value) (he : xs.toList.map a.eval = us) {R : Ending → World → Prop}
    (hc : Calls Tryd.prog f us.toArray w R) (h : ∀ e w', R e w' → ∃ v, e = .returned v ∧ K (a.put o.dst v) w') : o.wp Tryd.prog a w K Q := by
  have he2 : xs.map a.eval = us.toArray := by rw [← he]; cases xs; simp only [List.map_toArray]
  unfold Oper.wp execOp
  simp only [ho]
  have hf : a.eval (.func f) = .func (.func f) #[] #[] := rfl
  simp only [resolve, invoke, hf, he2, Sem.run_bind, Sem.run_pure, Result.andThen_ok, hcl]
  simp [Deferred.ofValue, hcl, go_sem]
  refine hc.mono ?_
  intro e w2 h2
  obtain ⟨v, rfl, h3⟩ := h e w2 h2
  exact h3
end Go.Proofs.YtjafmnemobcipaaDoor
