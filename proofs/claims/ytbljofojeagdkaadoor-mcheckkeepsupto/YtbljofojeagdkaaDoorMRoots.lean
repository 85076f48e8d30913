import Derived.Test.YtbljofojeagdkaaDoorMRet8
namespace Go.Proofs.YtbljofojeagdkaaDoor
open Go.RowKit Go.BigFrame
set_option linter.unusedVariables false
set_option linter.unusedSimpArgs false

theorem rootsE_f {z : Int} {old : List Nat} {m n : Nat} {p : List (List Nat)} (h : formedE z (old :: p) ≠ 0) : rootsE z old m n p = formedE z (old :: p) ∧ rootsD z old m n p = (zD, zD) := by
  have e : rootsE z old m n p = formedE z (old :: p) := by unfold rootsE; rw [if_pos h]
  exact ⟨e, by unfold rootsD; rw [e, if_neg h]⟩
theorem rootsE_r {z : Int} {old : List Nat} {m n : Nat} {p : List (List Nat)} (h : formedE z (old :: p) = 0) (hr : m = 0 ∨ n ≤ m) : rootsE z old m n p = 4 ∧ rootsD z old m n p = (zD, zD) := by
  have e : rootsE z old m n p = 4 := by unfold rootsE; rw [if_neg (by omega), if_pos hr]
  exact ⟨e, by unfold rootsD; rw [e, if_neg (by decide)]⟩
theorem rootsE_c {z : Int} {old : List Nat} {m n : Nat} {p : List (List Nat)} (h : formedE z (old :: p) = 0) (hr : ¬ (m = 0 ∨ n ≤ m)) : rootsE z old m n p = opF (twD z old p.reverse m n true) ∧ rootsD z old m n p = opP (twD z old p.reverse m n true) := by
  have e : rootsE z old m n p = opF (twD z old p.reverse m n true) := by unfold rootsE; rw [if_neg (by omega), if_neg hr]; rfl
  refine ⟨e, ?_⟩
  unfold rootsD
  rw [e]
  unfold opF opP twO
  cases twD z old p.reverse m n true <;> rfl
theorem rootsD_dg {z : Int} {old : List Nat} {m n : Nat} {p : List (List Nat)} (hl : Dg old) (hp : ∀ d ∈ p, Dg d) : Dg (rootsD z old m n p).1 ∧ Dg (rootsD z old m n p).2 := by
  by_cases h : formedE z (old :: p) = 0
  · obtain ⟨hw, hf⟩ := formedE_zero h
    by_cases hr : m = 0 ∨ n ≤ m
    · rw [(rootsE_r h hr).2]; exact ⟨zD_dg, zD_dg⟩
    · rw [(rootsE_c h hr).2]
      refine opP_dg fun d hd => ?_
      have := twD_ok hw hl (hf old (by simp)) _ _ _ _ d (fun y hy => ⟨hp y (List.mem_reverse.1 hy), hf y (by simp at hy; simp [hy])⟩) hd
      exact ⟨this.1.1, this.2.1⟩
  · rw [(rootsE_f h).2]; exact ⟨zD_dg, zD_dg⟩
theorem results_cell_cell_tmp {P : Program} {fn : Func} {p p2 q : Tmp} {ty ty2 : TypeId} (h : fn.results = #[.cell p ty, .cell p2 ty2, .tmp q]) (tmps : Array Value) (w : World) (g g2 : Nat) (t t2 : TypeId) (cs cs2 : Array Value) (fr fr2 : Nat × Nat) (d d2 : TypeDesc)
    (hp : tmps.getD p undef = .pointer (some ⟨g, 0, none⟩)) (hg : w.heap[g]? = some (.cells cs t fr)) (hp2 : tmps.getD p2 undef = .pointer (some ⟨g2, 0, none⟩)) (hg2 : w.heap[g2]? = some (.cells cs2 t2 fr2))
    (hu : P.underlying ty = some d) (hd : (match d with | .struct _ | .array _ _ => true | _ => false) = true) (hi : (P.info? ty).map (·.size) = some cs.size)
    (hu2 : P.underlying ty2 = some d2) (hd2 : (match d2 with | .struct _ | .array _ _ => true | _ => false) = true) (hi2 : (P.info? ty2).map (·.size) = some cs2.size) (v : Value) (hq : tmps.getD q undef = v) :
    (results fn tmps).run P w = .ok (.tuple #[.agg cs, .agg cs2, v]) w := by
  have hp' : tmps[p]?.getD undef = .pointer (some ⟨g, 0, none⟩) := by simpa using hp
  have hp2' : tmps[p2]?.getD undef = .pointer (some ⟨g2, 0, none⟩) := by simpa using hp2
  have hq' : tmps[q]?.getD undef = v := by simpa using hq
  simp [results, h, hp', hp2', hq', asAddr, run_loadVar_row w g t ty cs fr d hg hu hd hi, run_loadVar_row w g2 t2 ty2 cs2 fr2 d2 hg2 hu2 hd2 hi2]

theorem there_zb {w : World} {g n : Nat} {t : TypeId} (h : w.heap[g]? = some (.cells (zb n) t (0, 0))) : w.there g 0 n := fun j hj =>
  ⟨by rw [cell_of_row w g (0 + j) _ t _ h, Nat.zero_add]; simp [zb, brow, hj], frozen_of_row _ _ _ _ _ h⟩
theorem lt_of_heap {w : World} {g : Nat} {o : Obj} (h : w.heap[g]? = some o) : g < w.heap.size := (Array.getElem?_eq_some_iff.1 h).1

set_option maxRecDepth 100000 in
set_option maxHeartbeats 2000000 in
theorem rootsOf_any (z : Int) (m n : Nat) (old : List Nat) (pv : Value) (p : List (List Nat)) (w : World) (hz : -9223372036854775808 ≤ z ∧ z ≤ 9223372036854775807) (hl : Dg old) (hm : m < 18446744073709551616) (hn : n < 18446744073709551616) (hp : RdD w pv p) (hT : Tabs w) :
    Calls Tryd.prog 11 #[.int .i64 z, .int .u64 m, .int .u64 n, .agg (brow old), pv] w fun e w' => e = .returned (.tuple #[.agg (brow (rootsD z old m n p).1), .agg (brow (rootsD z old m n p).2), .int .i64 (rootsE z old m n p)]) ∧ Kept [] w w' := by
  have HP := hide hp
  have hdg := rootsD_dg (z := z) (m := m) (n := n) hl (fun d hd => hp.dg hd)
  obtain ⟨ao, len, cap, rfl, h1, h2, h3, h4, h5⟩ := hp
  clear h4 h5
  have HT := hide hT
  have HL := hide hl
  have hll := hl.1
  clear hT
  obtain ⟨D, hD⟩ : ∃ D, rootsD z old m n p = D := ⟨_, rfl⟩
  obtain ⟨E, hE⟩ : ∃ E, rootsE z old m n p = E := ⟨_, rfl⟩
  have HD := hide hD
  have HE := hide hE
  rw [hD] at hdg
  rw [hD, hE]
  clear hD hE
  obtain ⟨D1, D2⟩ := D
  have hd1 := hdg.1.1
  have hd2 := hdg.2.1
  simp only at hd1 hd2 ⊢
  clear hdg
  go_enter Tryd.func11, Tryd.ntmps11
  have HGL := hide ((((Kept.refl [] (w.alloc (.cells (brow old) 23))).alloc (.cells (zb 32) 23)).alloc (.cells (zb 32) 23)).heap (heap_alloc_new w (.cells (brow old) 23)) (by simp))
  have HGZ := hide (((Kept.refl [] ((w.alloc (.cells (brow old) 23)).alloc (.cells (zb 32) 23))).alloc (.cells (zb 32) 23)).heap (alloc_at w (.cells (brow old) 23) (.cells (zb 32) 23)) (by simp))
  have HGY := hide (alloc3_at w (.cells (brow old) 23) (.cells (zb 32) 23) (.cells (zb 32) 23))
  have HK0 := hide ((((Kept.refl [] w).alloc (.cells (brow old) 23)).alloc (.cells (zb 32) 23)).alloc (.cells (zb 32) 23))
  have HSL := hide (by rw [List.length_map, hll]; exact Tryd.size_dig : (Tryd.prog.info? 23).map (·.size) = some (old.map u8).length)
  go_wp2_with (refine wpList_load_mid rfl 23 _ rfl w.heap.size 0 rfl (old.map u8) _ (range_row (unhide HGL)) Tryd.underlying23 rfl (unhide HSL) ?_)
  rw [zb32, one_dig old hll]
  obtain ⟨W0, hW0⟩ : ∃ W0, ((w.alloc (.cells (brow old) 23)).alloc (.cells (zb 32) 23)).alloc (.cells (zb 32) 23) = W0 := ⟨_, rfl⟩
  have hsz : w.heap.size + 1 + 1 + 1 = W0.heap.size := by rw [← hW0]; simp
  rw [hW0] at HGL HGZ HGY HK0 ⊢
  have k0 := (Kept.refl [] W0).alloc (.cells (brow old) 23)
  refine Calls.mono (mformed_any z _ _ p [old] _ hz ((unhide HP).old ((unhide HK0).trans k0 (by simp))) (RdD.one (by rw [hsz]; exact heap_alloc_new _ _) (unhide HL))) ?_
  rintro e w1 ⟨rfl, k1⟩
  have k01 := k0.trans k1 (by simp)
  have HK1 := hide ((unhide HK0).trans k01 (by simp))
  have HL1 := hide (k01.heap (unhide HGL) (by simp))
  have HZ1 := hide (k01.heap (unhide HGZ) (by simp))
  have HY1 := hide (k01.heap (unhide HGY) (by simp))
  clear k0 k1 k01 HGL HGZ HGY hW0
  obtain ⟨f, hf⟩ : ∃ f, formedE z ([old] ++ p) = f := ⟨_, rfl⟩
  have HF := hide (show formedE z (old :: p) = f from hf)
  rw [hf]
  clear hf
  by_cases hf0 : f = 0
  · subst hf0
    obtain ⟨hw, hff⟩ := formedE_zero (unhide HF)
    have HFF := hide hff
    clear hff
    by_cases hr : m = 0 ∨ n ≤ m
    · have HC := hide (by rw [← unhide HE, ← unhide HD]; exact rootsE_r (unhide HF) hr : E = 4 ∧ (D1, D2) = (zD, zD))
      have HYD := hide ((setRow_other w1 (w.heap.size + 1) (w.heap.size + 1 + 1) (zb 32) (by omega)).trans (unhide HY1))
      have HKK := hide (((unhide HK1).setRow (g := w.heap.size + 1) (Or.inr (by omega)) (zb 32)).setRow (g := w.heap.size + 1 + 1) (Or.inr (by omega)) (zb 32))
      have HZR := hide ((setRow_other (w1.setRow (w.heap.size + 1) (zb 32)) (w.heap.size + 1 + 1) (w.heap.size + 1) (zb 32) (by omega)).trans (setRow_heap w1 _ _ (zb 32) _ _ (unhide HZ1)))
      have HYR := hide (setRow_heap (w1.setRow (w.heap.size + 1) (zb 32)) _ _ (zb 32) _ _ (unhide HYD))
      by_cases hm0 : m = 0
      · have hr1 : ((m : Int) == 0) = true := by simp; omega
        go_wp2_with (first
          | (rw [zb32]; refine wpList_store_row rfl 23 _ _ rfl (w.heap.size + 1) (zb 32) rfl rfl _ (zb 32) (unhide HZ1) (by rw [zb_size]; exact Tryd.size_dig) rfl (brow_one _) ?_)
          | (refine wpList_store_row rfl 23 _ _ rfl (w.heap.size + 1 + 1) (zb 32) rfl rfl _ (zb 32) (unhide HYD) (by rw [zb_size]; exact Tryd.size_dig) rfl (brow_one _) ?_))
        rw [(unhide HC).1]
        have HC1 := hide (Prod.mk.inj (unhide HC).2).1
        have HC2 := hide (Prod.mk.inj (unhide HC).2).2
        rw [unhide HC1, unhide HC2]
        refine bodyPost_ret (v := .tuple #[.agg (zb 32), .agg (zb 32), .int .i64 4]) ?_ rfl ⟨rfl, unhide HKK⟩
        exact results_cell_cell_tmp rfl _ _ (w.heap.size + 1) (w.heap.size + 1 + 1) _ _ (zb 32) (zb 32) (0, 0) (0, 0) _ _ rfl (unhide HZR) rfl (unhide HYR) Tryd.underlying23 rfl (by rw [zb_size]; exact Tryd.size_dig) Tryd.underlying23 rfl (by rw [zb_size]; exact Tryd.size_dig) _ rfl
      · have hr1 : ((m : Int) == 0) = false := by simp; omega
        have hr2 : (n : Int) ≤ m := by omega
        go_wp2_with (first
          | (rw [zb32]; refine wpList_store_row rfl 23 _ _ rfl (w.heap.size + 1) (zb 32) rfl rfl _ (zb 32) (unhide HZ1) (by rw [zb_size]; exact Tryd.size_dig) rfl (brow_one _) ?_)
          | (refine wpList_store_row rfl 23 _ _ rfl (w.heap.size + 1 + 1) (zb 32) rfl rfl _ (zb 32) (unhide HYD) (by rw [zb_size]; exact Tryd.size_dig) rfl (brow_one _) ?_))
        rw [(unhide HC).1]
        have HC1 := hide (Prod.mk.inj (unhide HC).2).1
        have HC2 := hide (Prod.mk.inj (unhide HC).2).2
        rw [unhide HC1, unhide HC2]
        refine bodyPost_ret (v := .tuple #[.agg (zb 32), .agg (zb 32), .int .i64 4]) ?_ rfl ⟨rfl, unhide HKK⟩
        exact results_cell_cell_tmp rfl _ _ (w.heap.size + 1) (w.heap.size + 1 + 1) _ _ (zb 32) (zb 32) (0, 0) (0, 0) _ _ rfl (unhide HZR) rfl (unhide HYR) Tryd.underlying23 rfl (by rw [zb_size]; exact Tryd.size_dig) Tryd.underlying23 rfl (by rw [zb_size]; exact Tryd.size_dig) _ rfl
    · have hr1 : ((m : Int) == 0) = false := by simp; omega
      have hr2 : ¬ (n : Int) ≤ m := by omega
      have HC := hide (by rw [← unhide HE, ← unhide HD]; exact rootsE_c (unhide HF) hr : E = opF (twD z old p.reverse m n true) ∧ (D1, D2) = opP (twD z old p.reverse m n true))
      go_wp2_with (refine wpList_load_mid rfl 23 _ rfl w.heap.size 0 rfl (old.map u8) _ (range_row (unhide HL1)) Tryd.underlying23 rfl (unhide HSL) ?_)
      refine Calls.mono (climbBoth_any z old hz hw (unhide HL) (unhide HFF old (by simp)) p.reverse m n true _ _ (by omega) (by omega) hn (by rw [List.reverse_reverse]; exact (unhide HP).old (unhide HK1)) (fun y hy => unhide HFF y (by simp at hy; simp [hy])) ((unhide HT).k (unhide HK1))) ?_
      rintro e w2 ⟨rfl, k2⟩
      rw [← (unhide HC).1, ← (unhide HC).2]
      have HZ2 := hide (k2.heap (unhide HZ1) (by simp))
      have HY2 := hide (k2.heap (unhide HY1) (by simp))
      have HK2 := hide ((unhide HK1).trans k2 (by simp))
      have HZ2' := HZ2
      have HY2' := HY2
      clear k2 HZ1 HL1 HY1
      have hOs : (pw (D1, D2)).size = 64 := pw_size hd1 hd2
      have HSO := hide (by rw [hOs]; exact Tryd.size_roots : (Tryd.prog.info? 65).map (·.size) = some (pw (D1, D2)).size)
      have HNW := hide (setRow_heap (w2.alloc (.cells (zb 64) 65)) w2.heap.size (zb 64) (pw (D1, D2)) 65 (0, 0) (heap_alloc_new _ _))
      have k5 := ((Kept.refl [] w2).alloc (.cells (zb 64) 65)).setRow (g := w2.heap.size) (Or.inr (Nat.le_refl _)) (pw (D1, D2))
      have HZ5 := hide (k5.heap (unhide HZ2) (by simp))
      have HY5 := hide (k5.heap (unhide HY2) (by simp))
      have HK5 := hide ((unhide HK2).trans k5 (by simp))
      have HR1 := hide (pw_ranges (unhide HNW) hd1).1
      have HR2 := hide (pw_ranges (unhide HNW) hd1).2
      clear k5 HZ2 HY2
      go_wp2_with (rw [zb64]; refine wpList_store_row rfl 65 _ _ rfl w2.heap.size (pw (D1, D2)) rfl rfl _ (zb 64) (heap_alloc_new _ _) (unhide HSO) (by rw [zb_size, hOs]) (pw_one _) ?_)
      obtain ⟨W5, hW5⟩ : ∃ W5, (w2.alloc (.cells (zb 64) 65)).setRow w2.heap.size (pw (D1, D2)) = W5 := ⟨_, rfl⟩
      have hs2 := (unhide HK2).size
      have hlt1 : w.heap.size + 1 < w2.heap.size := by have := lt_of_heap (unhide HZ2'); omega
      rw [hW5] at HZ5 HY5 HK5 HR1 HR2 ⊢
      have hud := Tryd.underlying23
      have hi1 : (Tryd.prog.info? 23).map (·.size) = some (D1.map u8).length := by rw [List.length_map, hd1]; exact Tryd.size_dig
      have hi2 : (Tryd.prog.info? 23).map (·.size) = some (D2.map u8).length := by rw [List.length_map, hd2]; exact Tryd.size_dig
      have hr1 := unhide HR1
      have hr2 := unhide HR2
      have hlt2 : w.heap.size + 1 + 1 < w2.heap.size := by have := lt_of_heap (unhide HY2'); omega
      have HYD := hide ((setRow_other W5.drew (w.heap.size + 1) (w.heap.size + 1 + 1) (brow D1) (by omega)).trans (unhide HY5))
      have kA := (Kept.refl [w.heap.size + 1] W5.drew).setRow (g := w.heap.size + 1) (by simp) (brow D1)
      have kB := (Kept.refl [w.heap.size + 1 + 1] (W5.drew.setRow (w.heap.size + 1) (brow D1))).setRow (g := w.heap.size + 1 + 1) (by simp) (brow D2)
      have hH6 : (W5.drew.setRow (w.heap.size + 1) (brow D1)).rangeAt w2.heap.size 0 (D1.map u8) ∧ (W5.drew.setRow (w.heap.size + 1) (brow D1)).rangeAt w2.heap.size 32 (D2.map u8) := And.intro (range_kept (w := W5.drew) hr1 kA (by simp; omega)) (range_kept (w := W5.drew) hr2 kA (by simp; omega))
      have hH7 := And.intro (range_kept hH6.1 kB (by simp; omega)) (range_kept hH6.2 kB (by simp; omega))
      have HKK := hide ((((unhide HK5).drew).setRow (g := w.heap.size + 1) (Or.inr (by omega)) (brow D1)).setRow (g := w.heap.size + 1 + 1) (Or.inr (by omega)) (brow D2))
      have HZR := hide ((setRow_other (W5.drew.setRow (w.heap.size + 1) (brow D1)) (w.heap.size + 1 + 1) (w.heap.size + 1) (brow D2) (by omega)).trans (setRow_heap W5.drew _ _ (brow D1) _ _ (unhide HZ5)))
      have HYR := hide (setRow_heap (W5.drew.setRow (w.heap.size + 1) (brow D1)) _ _ (brow D2) _ _ (unhide HYD))
      clear kA kB
      refine wp_ret8 (fun w' => w'.rangeAt w2.heap.size 0 (D1.map u8) ∧ w'.rangeAt w2.heap.size 32 (D2.map u8)) (by kernel_rfl) (by kernel_rfl) (by kernel_rfl) (by kernel_rfl) (by kernel_rfl) (by kernel_rfl) (by kernel_rfl) (by kernel_rfl) (by kernel_rfl) (by kernel_rfl) (by kernel_rfl) (by kernel_rfl) (by kernel_rfl) (by kernel_rfl) (by kernel_rfl) (by kernel_rfl) (by kernel_rfl) rfl rfl
        ⟨hr1, hr2⟩ (.pointer (some ⟨w2.heap.size, 0, none⟩)) (.agg (D1.map u8).toArray) (.pointer (some ⟨w2.heap.size, 32, none⟩)) (.agg (D2.map u8).toArray) (.int .i64 E) (.int .i64 E)
        _ _ _ _ _ _ _ _ (by simp only [Act.put, List.setIfInBounds_toArray, List.set_cons_zero, List.set_cons_succ]; rfl) (by simp only [Act.put, List.setIfInBounds_toArray, List.set_cons_zero, List.set_cons_succ]; rfl) (by simp only [Act.put, List.setIfInBounds_toArray, List.set_cons_zero, List.set_cons_succ]; rfl) (by simp only [Act.put, List.setIfInBounds_toArray, List.set_cons_zero, List.set_cons_succ]; rfl) (by simp only [Act.put, List.setIfInBounds_toArray, List.set_cons_zero, List.set_cons_succ]; rfl) (by simp only [Act.put, List.setIfInBounds_toArray, List.set_cons_zero, List.set_cons_succ]; rfl) (by simp only [Act.put, List.setIfInBounds_toArray, List.set_cons_zero, List.set_cons_succ]; rfl) (by simp only [Act.put, List.setIfInBounds_toArray, List.set_cons_zero, List.set_cons_succ]; rfl)
        (by exact Or.inl ⟨by rfl, fun W hW => by go_simp⟩)
        (by exact yieldsIf_load_mid (by rfl) _ _ rfl w2.heap.size 0 rfl (D1.map u8) _ (fun W hW => hW.1) Tryd.underlying23 rfl hi1)
        (by exact Or.inl ⟨by rfl, fun W hW => by go_simp⟩)
        (by exact yieldsIf_load_mid (by rfl) _ _ rfl w2.heap.size 32 rfl (D2.map u8) _ (fun W hW => hW.2) Tryd.underlying23 rfl hi2)
        (by exact Or.inl ⟨by rfl, fun W hW => by go_simp⟩)
        23 23 _ _ _ _ rfl rfl (w.heap.size + 1) (w.heap.size + 1 + 1) (brow D1) (brow D2) (zb 32) (zb 32) 23 23
        (by rfl) (by rfl) (unhide HZ5) (by rw [brow_size, hd1]; exact Tryd.size_dig) (by rw [zb_size, brow_size, hd1]) (brow_one _) hH6
        (by rfl) (by rfl) (unhide HYD) (by rw [brow_size, hd2]; exact Tryd.size_dig) (by rw [zb_size, brow_size, hd2]) (brow_one _) hH7
        (by exact Or.inl ⟨by rfl, fun W hW => by go_simp⟩) ?_
      go_wp2_with fail
      refine bodyPost_ret (v := .tuple #[.agg (brow D1), .agg (brow D2), .int .i64 E]) ?_ rfl ⟨rfl, unhide HKK⟩
      exact results_cell_cell_tmp rfl _ _ (w.heap.size + 1) (w.heap.size + 1 + 1) _ _ (brow D1) (brow D2) (0, 0) (0, 0) _ _ rfl (unhide HZR) rfl (unhide HYR) Tryd.underlying23 rfl (by rw [brow_size, hd1]; exact Tryd.size_dig) Tryd.underlying23 rfl (by rw [brow_size, hd2]; exact Tryd.size_dig) _ rfl
  · have hb : ((f : Int) != 0) = true := by simp; omega
    have HC := hide (by rw [← unhide HE, ← unhide HD, ← unhide HF]; exact rootsE_f (by rw [unhide HF]; exact hf0) : E = f ∧ (D1, D2) = (zD, zD))
    have HYD := hide ((setRow_other w1 (w.heap.size + 1) (w.heap.size + 1 + 1) (zb 32) (by omega)).trans (unhide HY1))
    have HKK := hide (((unhide HK1).setRow (g := w.heap.size + 1) (Or.inr (by omega)) (zb 32)).setRow (g := w.heap.size + 1 + 1) (Or.inr (by omega)) (zb 32))
    have HZR := hide ((setRow_other (w1.setRow (w.heap.size + 1) (zb 32)) (w.heap.size + 1 + 1) (w.heap.size + 1) (zb 32) (by omega)).trans (setRow_heap w1 _ _ (zb 32) _ _ (unhide HZ1)))
    have HYR := hide (setRow_heap (w1.setRow (w.heap.size + 1) (zb 32)) _ _ (zb 32) _ _ (unhide HYD))
    go_wp2_with (first
      | (rw [zb32]; refine wpList_store_row rfl 23 _ _ rfl (w.heap.size + 1) (zb 32) rfl rfl _ (zb 32) (unhide HZ1) (by rw [zb_size]; exact Tryd.size_dig) rfl (brow_one _) ?_)
      | (refine wpList_store_row rfl 23 _ _ rfl (w.heap.size + 1 + 1) (zb 32) rfl rfl _ (zb 32) (unhide HYD) (by rw [zb_size]; exact Tryd.size_dig) rfl (brow_one _) ?_))
    rw [(unhide HC).1]
    have HC1 := hide (Prod.mk.inj (unhide HC).2).1
    have HC2 := hide (Prod.mk.inj (unhide HC).2).2
    rw [unhide HC1, unhide HC2]
    refine bodyPost_ret (v := .tuple #[.agg (zb 32), .agg (zb 32), .int .i64 f]) ?_ rfl ⟨rfl, unhide HKK⟩
    exact results_cell_cell_tmp rfl _ _ (w.heap.size + 1) (w.heap.size + 1 + 1) _ _ (zb 32) (zb 32) (0, 0) (0, 0) _ _ rfl (unhide HZR) rfl (unhide HYR) Tryd.underlying23 rfl (by rw [zb_size]; exact Tryd.size_dig) Tryd.underlying23 rfl (by rw [zb_size]; exact Tryd.size_dig) _ rfl
end Go.Proofs.YtbljofojeagdkaaDoor
