import Derived.Test.YthafpaenggcpdaaDoorTopB
import Derived.Deep.RegionHeld3
namespace Go.Proofs.YthafpaenggcpdaaDoor
open Go.RowKit Go.BigFrame
set_option linter.unusedVariables false
set_option linter.unusedSimpArgs false

theorem rootsE_f {z : Int} {old : List Nat} {m n : Nat} {p : List (List Nat)} (h : formedE z (old :: p) ≠ 0) : rootsE z old m n p = formedE z (old :: p) ∧ rootsD z old m n p = (zD, zD) := by
  have e : rootsE z old m n p = formedE z (old :: p) := by unfold rootsE; rw [if_pos h]
  exact ⟨e, by unfold rootsD; rw [e, if_neg h]⟩
theorem rootsE_r {z : Int} {old : List Nat} {m n : Nat} {p : List (List Nat)} (h : formedE z (old :: p) = 0) (hr : m = 0 ∨ n ≤ m) : rootsE z old m n p = 4 ∧ rootsD z old m n p = (zD, zD) := by
  have e : rootsE z old m n p = 4 := by unfold rootsE; rw [if_neg (by omega), if_pos hr]
  exact ⟨e, by unfold rootsD; rw [e, if_neg (by decide)]⟩
theorem rootsE_c {z : Int} {old : List Nat} {m n : Nat} {p : List (List Nat)} (h : formedE z (old :: p) = 0) (hr : ¬ (m = 0 ∨ n ≤ m)) : rootsE z old m n p = opF (twD z old p.reverse m n true) ∧ rootsD z old m n p = opP (twD z old p.reverse m n true) := by
  have e : rootsE z old m n p = opF (twD z old p.reverse m n true) := by unfold rootsE; rw [if_neg (by omega), if_neg hr]; rfl
  refine ⟨e, ?_⟩
  unfold rootsD
  rw [e]
  unfold opF opP twO
  cases twD z old p.reverse m n true <;> rfl
theorem rootsD_dg {z : Int} {old : List Nat} {m n : Nat} {p : List (List Nat)} (hl : Dg old) (hp : ∀ d ∈ p, Dg d) : Dg (rootsD z old m n p).1 ∧ Dg (rootsD z old m n p).2 := by
  by_cases h : formedE z (old :: p) = 0
  · obtain ⟨hw, hf⟩ := formedE_zero h
    by_cases hr : m = 0 ∨ n ≤ m
    · rw [(rootsE_r h hr).2]; exact ⟨zD_dg, zD_dg⟩
    · rw [(rootsE_c h hr).2]
      refine opP_dg fun d hd => ?_
      have := twD_ok hw hl (hf old (by simp)) _ _ _ _ d (fun y hy => ⟨hp y (List.mem_reverse.1 hy), hf y (by simp at hy; simp [hy])⟩) hd
      exact ⟨this.1.1, this.2.1⟩
  · rw [(rootsE_f h).2]; exact ⟨zD_dg, zD_dg⟩
theorem results_cell_cell_tmp {P : Program} {fn : Func} {p p2 q : Tmp} {ty ty2 : TypeId} (h : fn.results = #[.cell p ty, .cell p2 ty2, .tmp q]) (tmps : Array Value) (w : World) (g g2 : Nat) (t t2 : TypeId) (cs cs2 : Array Value) (fr fr2 : Nat × Nat) (d d2 : TypeDesc)
    (hp : tmps.getD p undef = .pointer (some ⟨g, 0, none⟩)) (hg : w.heap[g]? = some (.cells cs t fr)) (hp2 : tmps.getD p2 undef = .pointer (some ⟨g2, 0, none⟩)) (hg2 : w.heap[g2]? = some (.cells cs2 t2 fr2))
    (hu : P.underlying ty = some d) (hd : (match d with | .struct _ | .array _ _ => true | _ => false) = true) (hi : (P.info? ty).map (·.size) = some cs.size)
    (hu2 : P.underlying ty2 = some d2) (hd2 : (match d2 with | .struct _ | .array _ _ => true | _ => false) = true) (hi2 : (P.info? ty2).map (·.size) = some cs2.size) (v : Value) (hq : tmps.getD q undef = v) :
    (results fn tmps).run P w = .ok (.tuple #[.agg cs, .agg cs2, v]) w := by
  have hp' : tmps[p]?.getD undef = .pointer (some ⟨g, 0, none⟩) := by simpa using hp
  have hp2' : tmps[p2]?.getD undef = .pointer (some ⟨g2, 0, none⟩) := by simpa using hp2
  have hq' : tmps[q]?.getD undef = v := by simpa using hq
  simp [results, h, hp', hp2', hq', asAddr, run_loadVar_row w g t ty cs fr d hg hu hd hi, run_loadVar_row w g2 t2 ty2 cs2 fr2 d2 hg2 hu2 hd2 hi2]

theorem there_zb {w : World} {g n : Nat} {t : TypeId} (h : w.heap[g]? = some (.cells (zb n) t (0, 0))) : w.there g 0 n := fun j hj =>
  ⟨by rw [cell_of_row w g (0 + j) _ t _ h, Nat.zero_add]; simp [zb, brow, hj], frozen_of_row _ _ _ _ _ h⟩
theorem lt_of_heap {w : World} {g : Nat} {o : Obj} (h : w.heap[g]? = some o) : g < w.heap.size := (Array.getElem?_eq_some_iff.1 h).1

set_option maxRecDepth 100000 in
set_option maxHeartbeats 2000000 in
theorem rootsOf_any (z : Int) (m n : Nat) (old : List Nat) (pv : Value) (p : List (List Nat)) (w : World) (hz : -9223372036854775808 ≤ z ∧ z ≤ 9223372036854775807) (hl : Dg old) (hm : m < 18446744073709551616) (hn : n < 18446744073709551616) (hp : RdD w pv p) (hT : Tabs w) :
    Calls Tryd.prog 15 #[.int .i64 z, .int .u64 m, .int .u64 n, .agg (brow old), pv] w fun e w' => e = .returned (.tuple #[.agg (brow (rootsD z old m n p).1), .agg (brow (rootsD z old m n p).2), .int .i64 (rootsE z old m n p)]) ∧ Kept [] w w' := by
  have HP := hide hp
  have hdg := rootsD_dg (z := z) (m := m) (n := n) hl (fun d hd => hp.dg hd)
  obtain ⟨ao, len, cap, rfl, h1, h2, h3, h4, h5⟩ := hp
  clear h4 h5
  have HT := hide hT
  have HL := hide hl
  have hll := hl.1
  clear hT
  obtain ⟨D, hD⟩ : ∃ D, rootsD z old m n p = D := ⟨_, rfl⟩
  obtain ⟨E, hE⟩ : ∃ E, rootsE z old m n p = E := ⟨_, rfl⟩
  have HD := hide hD
  have HE := hide hE
  rw [hD] at hdg
  rw [hD, hE]
  clear hD hE
  obtain ⟨D1, D2⟩ := D
  have hd1 := hdg.1.1
  have hd2 := hdg.2.1
  simp only at hd1 hd2 ⊢
  clear hdg
  go_enter Tryd.func15, Tryd.ntmps15
  have HGL := hide ((((Kept.refl [] (w.alloc (.cells (brow old) 23))).alloc (.cells (zb 32) 23)).alloc (.cells (zb 32) 23)).heap (heap_alloc_new w (.cells (brow old) 23)) (by simp))
  have HGZ := hide (((Kept.refl [] ((w.alloc (.cells (brow old) 23)).alloc (.cells (zb 32) 23))).alloc (.cells (zb 32) 23)).heap (alloc_at w (.cells (brow old) 23) (.cells (zb 32) 23)) (by simp))
  have HGY := hide (alloc3_at w (.cells (brow old) 23) (.cells (zb 32) 23) (.cells (zb 32) 23))
  have HK0 := hide ((((Kept.refl [] w).alloc (.cells (brow old) 23)).alloc (.cells (zb 32) 23)).alloc (.cells (zb 32) 23))
  have HSL := hide (by rw [List.length_map, hll]; exact Tryd.size_dig : (Tryd.prog.info? 23).map (·.size) = some (old.map u8).length)
  go_wp2_with (refine wpList_load_mid rfl 23 _ rfl w.heap.size 0 rfl (old.map u8) _ (range_row (unhide HGL)) Tryd.underlying23 rfl (unhide HSL) ?_)
  rw [zb32, one_dig old hll]
  obtain ⟨W0, hW0⟩ : ∃ W0, ((w.alloc (.cells (brow old) 23)).alloc (.cells (zb 32) 23)).alloc (.cells (zb 32) 23) = W0 := ⟨_, rfl⟩
  have hsz : w.heap.size + 1 + 1 + 1 = W0.heap.size := by rw [← hW0]; simp
  rw [hW0] at HGL HGZ HGY HK0 ⊢
  have k0 := (Kept.refl [] W0).alloc (.cells (brow old) 23)
  refine Calls.mono (mformed_any z _ _ p [old] _ hz ((unhide HP).old ((unhide HK0).trans k0 (by simp))) (RdD.one (by rw [hsz]; exact heap_alloc_new _ _) (unhide HL))) ?_
  rintro e w1 ⟨rfl, k1⟩
  have k01 := k0.trans k1 (by simp)
  have HK1 := hide ((unhide HK0).trans k01 (by simp))
  have HL1 := hide (k01.heap (unhide HGL) (by simp))
  have HZ1 := hide (k01.heap (unhide HGZ) (by simp))
  have HY1 := hide (k01.heap (unhide HGY) (by simp))
  clear k0 k1 k01 HGL HGZ HGY hW0
  obtain ⟨f, hf⟩ : ∃ f, formedE z ([old] ++ p) = f := ⟨_, rfl⟩
  have HF := hide (show formedE z (old :: p) = f from hf)
  rw [hf]
  clear hf
  by_cases hf0 : f = 0
  · subst hf0
    obtain ⟨hw, hff⟩ := formedE_zero (unhide HF)
    have HFF := hide hff
    clear hff
    by_cases hr : m = 0 ∨ n ≤ m
    · have HC := hide (by rw [← unhide HE, ← unhide HD]; exact rootsE_r (unhide HF) hr : E = 4 ∧ (D1, D2) = (zD, zD))
      have HYD := hide ((setRow_other w1 (w.heap.size + 1) (w.heap.size + 1 + 1) (zb 32) (by omega)).trans (unhide HY1))
      have HKK := hide (((unhide HK1).setRow (g := w.heap.size + 1) (Or.inr (by omega)) (zb 32)).setRow (g := w.heap.size + 1 + 1) (Or.inr (by omega)) (zb 32))
      have HZR := hide ((setRow_other (w1.setRow (w.heap.size + 1) (zb 32)) (w.heap.size + 1 + 1) (w.heap.size + 1) (zb 32) (by omega)).trans (setRow_heap w1 _ _ (zb 32) _ _ (unhide HZ1)))
      have HYR := hide (setRow_heap (w1.setRow (w.heap.size + 1) (zb 32)) _ _ (zb 32) _ _ (unhide HYD))
      by_cases hm0 : m = 0
      · have hr1 : ((m : Int) == 0) = true := by simp; omega
        go_wp2_with (first
          | (rw [zb32]; refine wpList_store_row rfl 23 _ _ rfl (w.heap.size + 1) (zb 32) rfl rfl _ (zb 32) (unhide HZ1) (by rw [zb_size]; exact Tryd.size_dig) rfl (brow_one _) ?_)
          | (refine wpList_store_row rfl 23 _ _ rfl (w.heap.size + 1 + 1) (zb 32) rfl rfl _ (zb 32) (unhide HYD) (by rw [zb_size]; exact Tryd.size_dig) rfl (brow_one _) ?_))
        rw [(unhide HC).1]
        have HC1 := hide (Prod.mk.inj (unhide HC).2).1
        have HC2 := hide (Prod.mk.inj (unhide HC).2).2
        rw [unhide HC1, unhide HC2]
        refine bodyPost_ret (v := .tuple #[.agg (zb 32), .agg (zb 32), .int .i64 4]) ?_ rfl ⟨rfl, unhide HKK⟩
        exact results_cell_cell_tmp rfl _ _ (w.heap.size + 1) (w.heap.size + 1 + 1) _ _ (zb 32) (zb 32) (0, 0) (0, 0) _ _ rfl (unhide HZR) rfl (unhide HYR) Tryd.underlying23 rfl (by rw [zb_size]; exact Tryd.size_dig) Tryd.underlying23 rfl (by rw [zb_size]; exact Tryd.size_dig) _ rfl
      · have hr1 : ((m : Int) == 0) = false := by simp; omega
        have hr2 : (n : Int) ≤ m := by omega
        go_wp2_with (first
          | (rw [zb32]; refine wpList_store_row rfl 23 _ _ rfl (w.heap.size + 1) (zb 32) rfl rfl _ (zb 32) (unhide HZ1) (by rw [zb_size]; exact Tryd.size_dig) rfl (brow_one _) ?_)
          | (refine wpList_store_row rfl 23 _ _ rfl (w.heap.size + 1 + 1) (zb 32) rfl rfl _ (zb 32) (unhide HYD) (by rw [zb_size]; exact Tryd.size_dig) rfl (brow_one _) ?_))
        rw [(unhide HC).1]
        have HC1 := hide (Prod.mk.inj (unhide HC).2).1
        have HC2 := hide (Prod.mk.inj (unhide HC).2).2
        rw [unhide HC1, unhide HC2]
        refine bodyPost_ret (v := .tuple #[.agg (zb 32), .agg (zb 32), .int .i64 4]) ?_ rfl ⟨rfl, unhide HKK⟩
        exact results_cell_cell_tmp rfl _ _ (w.heap.size + 1) (w.heap.size + 1 + 1) _ _ (zb 32) (zb 32) (0, 0) (0, 0) _ _ rfl (unhide HZR) rfl (unhide HYR) Tryd.underlying23 rfl (by rw [zb_size]; exact Tryd.size_dig) Tryd.underlying23 rfl (by rw [zb_size]; exact Tryd.size_dig) _ rfl
    · have hr1 : ((m : Int) == 0) = false := by simp; omega
      have hr2 : ¬ (n : Int) ≤ m := by omega
      have HC := hide (by rw [← unhide HE, ← unhide HD]; exact rootsE_c (unhide HF) hr : E = opF (twD z old p.reverse m n true) ∧ (D1, D2) = opP (twD z old p.reverse m n true))
      go_wp2_with (refine wpList_load_mid rfl 23 _ rfl w.heap.size 0 rfl (old.map u8) _ (range_row (unhide HL1)) Tryd.underlying23 rfl (unhide HSL) ?_)
      refine Calls.mono (climbBoth_any z old hz hw (unhide HL) (unhide HFF old (by simp)) p.reverse m n true _ _ (by omega) (by omega) hn (by rw [List.reverse_reverse]; exact (unhide HP).old (unhide HK1)) (fun y hy => unhide HFF y (by simp at hy; simp [hy])) ((unhide HT).k (unhide HK1))) ?_
      rintro e w2 ⟨rfl, k2⟩
      rw [← (unhide HC).1, ← (unhide HC).2]
      have HZ2 := hide (k2.heap (unhide HZ1) (by simp))
      have HY2 := hide (k2.heap (unhide HY1) (by simp))
      have HK2 := hide ((unhide HK1).trans k2 (by simp))
      have HZ2' := HZ2
      have HY2' := HY2
      clear k2 HZ1 HL1 HY1
      have hOs : (pw (D1, D2)).size = 64 := pw_size hd1 hd2
      have HSO := hide (by rw [hOs]; exact Tryd.size_roots : (Tryd.prog.info? 59).map (·.size) = some (pw (D1, D2)).size)
      have HNW := hide (setRow_heap (w2.alloc (.cells (zb 64) 59)) w2.heap.size (zb 64) (pw (D1, D2)) 59 (0, 0) (heap_alloc_new _ _))
      have k5 := ((Kept.refl [] w2).alloc (.cells (zb 64) 59)).setRow (g := w2.heap.size) (Or.inr (Nat.le_refl _)) (pw (D1, D2))
      have HZ5 := hide (k5.heap (unhide HZ2) (by simp))
      have HY5 := hide (k5.heap (unhide HY2) (by simp))
      have HK5 := hide ((unhide HK2).trans k5 (by simp))
      have HR1 := hide (pw_ranges (unhide HNW) hd1).1
      have HR2 := hide (pw_ranges (unhide HNW) hd1).2
      clear k5 HZ2 HY2
      go_wp2_with (rw [zb64]; refine wpList_store_row rfl 59 _ _ rfl w2.heap.size (pw (D1, D2)) rfl rfl _ (zb 64) (heap_alloc_new _ _) (unhide HSO) (by rw [zb_size, hOs]) (pw_one _) ?_)
      obtain ⟨W5, hW5⟩ : ∃ W5, (w2.alloc (.cells (zb 64) 59)).setRow w2.heap.size (pw (D1, D2)) = W5 := ⟨_, rfl⟩
      have hs2 := (unhide HK2).size
      have hlt1 : w.heap.size + 1 < w2.heap.size := by have := lt_of_heap (unhide HZ2'); omega
      rw [hW5] at HZ5 HY5 HK5 HR1 HR2 ⊢
      have hud := Tryd.underlying23
      have hi1 : (Tryd.prog.info? 23).map (·.size) = some (D1.map u8).length := by rw [List.length_map, hd1]; exact Tryd.size_dig
      have hi2 : (Tryd.prog.info? 23).map (·.size) = some (D2.map u8).length := by rw [List.length_map, hd2]; exact Tryd.size_dig
      have hr1 := unhide HR1
      have hr2 := unhide HR2
      have hlt2 : w.heap.size + 1 + 1 < w2.heap.size := by have := lt_of_heap (unhide HY2'); omega
      have HYD := hide ((setRow_other W5.drew (w.heap.size + 1) (w.heap.size + 1 + 1) (brow D1) (by omega)).trans (unhide HY5))
      have kA := (Kept.refl [w.heap.size + 1] W5.drew).setRow (g := w.heap.size + 1) (by simp) (brow D1)
      have kB := (Kept.refl [w.heap.size + 1 + 1] (W5.drew.setRow (w.heap.size + 1) (brow D1))).setRow (g := w.heap.size + 1 + 1) (by simp) (brow D2)
      have hH6 : (W5.drew.setRow (w.heap.size + 1) (brow D1)).rangeAt w2.heap.size 0 (D1.map u8) ∧ (W5.drew.setRow (w.heap.size + 1) (brow D1)).rangeAt w2.heap.size 32 (D2.map u8) := And.intro (range_kept (w := W5.drew) hr1 kA (by simp; omega)) (range_kept (w := W5.drew) hr2 kA (by simp; omega))
      have hH7 := And.intro (range_kept hH6.1 kB (by simp; omega)) (range_kept hH6.2 kB (by simp; omega))
      have HKK := hide ((((unhide HK5).drew).setRow (g := w.heap.size + 1) (Or.inr (by omega)) (brow D1)).setRow (g := w.heap.size + 1 + 1) (Or.inr (by omega)) (brow D2))
      have HZR := hide ((setRow_other (W5.drew.setRow (w.heap.size + 1) (brow D1)) (w.heap.size + 1 + 1) (w.heap.size + 1) (brow D2) (by omega)).trans (setRow_heap W5.drew _ _ (brow D1) _ _ (unhide HZ5)))
      have HYR := hide (setRow_heap (W5.drew.setRow (w.heap.size + 1) (brow D1)) _ _ (brow D2) _ _ (unhide HYD))
      clear kA kB
      refine wp_ret8 (fun w' => w'.rangeAt w2.heap.size 0 (D1.map u8) ∧ w'.rangeAt w2.heap.size 32 (D2.map u8)) (by kernel_rfl) (by kernel_rfl) (by kernel_rfl) (by kernel_rfl) (by kernel_rfl) (by kernel_rfl) (by kernel_rfl) (by kernel_rfl) (by kernel_rfl) (by kernel_rfl) (by kernel_rfl) (by kernel_rfl) (by kernel_rfl) (by kernel_rfl) (by kernel_rfl) (by kernel_rfl) (by kernel_rfl) rfl rfl
        ⟨hr1, hr2⟩ (.pointer (some ⟨w2.heap.size, 0, none⟩)) (.agg (D1.map u8).toArray) (.pointer (some ⟨w2.heap.size, 32, none⟩)) (.agg (D2.map u8).toArray) (.int .i64 E) (.int .i64 E)
        _ _ _ _ _ _ _ _ (by simp only [Act.put, List.setIfInBounds_toArray, List.set_cons_zero, List.set_cons_succ]; rfl) (by simp only [Act.put, List.setIfInBounds_toArray, List.set_cons_zero, List.set_cons_succ]; rfl) (by simp only [Act.put, List.setIfInBounds_toArray, List.set_cons_zero, List.set_cons_succ]; rfl) (by simp only [Act.put, List.setIfInBounds_toArray, List.set_cons_zero, List.set_cons_succ]; rfl) (by simp only [Act.put, List.setIfInBounds_toArray, List.set_cons_zero, List.set_cons_succ]; rfl) (by simp only [Act.put, List.setIfInBounds_toArray, List.set_cons_zero, List.set_cons_succ]; rfl) (by simp only [Act.put, List.setIfInBounds_toArray, List.set_cons_zero, List.set_cons_succ]; rfl) (by simp only [Act.put, List.setIfInBounds_toArray, List.set_cons_zero, List.set_cons_succ]; rfl)
        (by exact Or.inl ⟨by rfl, fun W hW => by go_simp⟩)
        (by exact yieldsIf_load_mid (by rfl) _ _ rfl w2.heap.size 0 rfl (D1.map u8) _ (fun W hW => hW.1) Tryd.underlying23 rfl hi1)
        (by exact Or.inl ⟨by rfl, fun W hW => by go_simp⟩)
        (by exact yieldsIf_load_mid (by rfl) _ _ rfl w2.heap.size 32 rfl (D2.map u8) _ (fun W hW => hW.2) Tryd.underlying23 rfl hi2)
        (by exact Or.inl ⟨by rfl, fun W hW => by go_simp⟩)
        23 23 _ _ _ _ rfl rfl (w.heap.size + 1) (w.heap.size + 1 + 1) (brow D1) (brow D2) (zb 32) (zb 32) 23 23
        (by rfl) (by rfl) (unhide HZ5) (by rw [brow_size, hd1]; exact Tryd.size_dig) (by rw [zb_size, brow_size, hd1]) (brow_one _) hH6
        (by rfl) (by rfl) (unhide HYD) (by rw [brow_size, hd2]; exact Tryd.size_dig) (by rw [zb_size, brow_size, hd2]) (brow_one _) hH7
        (by exact Or.inl ⟨by rfl, fun W hW => by go_simp⟩) ?_
      go_wp2_with fail
      refine bodyPost_ret (v := .tuple #[.agg (brow D1), .agg (brow D2), .int .i64 E]) ?_ rfl ⟨rfl, unhide HKK⟩
      exact results_cell_cell_tmp rfl _ _ (w.heap.size + 1) (w.heap.size + 1 + 1) _ _ (brow D1) (brow D2) (0, 0) (0, 0) _ _ rfl (unhide HZR) rfl (unhide HYR) Tryd.underlying23 rfl (by rw [brow_size, hd1]; exact Tryd.size_dig) Tryd.underlying23 rfl (by rw [brow_size, hd2]; exact Tryd.size_dig) _ rfl
  · have hb : ((f : Int) != 0) = true := by simp; omega
    have HC := hide (by rw [← unhide HE, ← unhide HD, ← unhide HF]; exact rootsE_f (by rw [unhide HF]; exact hf0) : E = f ∧ (D1, D2) = (zD, zD))
    have HYD := hide ((setRow_other w1 (w.heap.size + 1) (w.heap.size + 1 + 1) (zb 32) (by omega)).trans (unhide HY1))
    have HKK := hide (((unhide HK1).setRow (g := w.heap.size + 1) (Or.inr (by omega)) (zb 32)).setRow (g := w.heap.size + 1 + 1) (Or.inr (by omega)) (zb 32))
    have HZR := hide ((setRow_other (w1.setRow (w.heap.size + 1) (zb 32)) (w.heap.size + 1 + 1) (w.heap.size + 1) (zb 32) (by omega)).trans (setRow_heap w1 _ _ (zb 32) _ _ (unhide HZ1)))
    have HYR := hide (setRow_heap (w1.setRow (w.heap.size + 1) (zb 32)) _ _ (zb 32) _ _ (unhide HYD))
    go_wp2_with (first
      | (rw [zb32]; refine wpList_store_row rfl 23 _ _ rfl (w.heap.size + 1) (zb 32) rfl rfl _ (zb 32) (unhide HZ1) (by rw [zb_size]; exact Tryd.size_dig) rfl (brow_one _) ?_)
      | (refine wpList_store_row rfl 23 _ _ rfl (w.heap.size + 1 + 1) (zb 32) rfl rfl _ (zb 32) (unhide HYD) (by rw [zb_size]; exact Tryd.size_dig) rfl (brow_one _) ?_))
    rw [(unhide HC).1]
    have HC1 := hide (Prod.mk.inj (unhide HC).2).1
    have HC2 := hide (Prod.mk.inj (unhide HC).2).2
    rw [unhide HC1, unhide HC2]
    refine bodyPost_ret (v := .tuple #[.agg (zb 32), .agg (zb 32), .int .i64 f]) ?_ rfl ⟨rfl, unhide HKK⟩
    exact results_cell_cell_tmp rfl _ _ (w.heap.size + 1) (w.heap.size + 1 + 1) _ _ (zb 32) (zb 32) (0, 0) (0, 0) _ _ rfl (unhide HZR) rfl (unhide HYR) Tryd.underlying23 rfl (by rw [zb_size]; exact Tryd.size_dig) Tryd.underlying23 rfl (by rw [zb_size]; exact Tryd.size_dig) _ rfl
end Go.Proofs.YthafpaenggcpdaaDoor
namespace Go.Proofs.YthafpaenggcpdaaDoor
open Go.RowKit Go.BigFrame
set_option linter.unusedVariables false
set_option linter.unusedSimpArgs false

theorem wpList_load_midG {P : Program} {ops : Array Oper} {rest : List Oper} {op : Oper} {a : Act} {w : World} {Q : Exit → Act → World → Prop} (hw : Region.wanted op (yielded ops a.tmps) = true) (ty : TypeId) (x : Operand) (ho : op.op = .load ty x)
    (b o : Nat) (hx : a.eval x = .pointer (some ⟨b, o, none⟩)) (cs : List Value) (d : TypeDesc) (hc : w.rangeAt b o cs)
    (hu : P.underlying ty = some d) (hd : d.isRow = true) (hi : (P.info? ty).map (·.size) = some cs.length)
    (h : wpList P ops Q rest (a.put op.dst (.agg cs.toArray)) w) : wpList P ops Q (op :: rest) a w :=
  wpList_want hw fun _ hK => wp_load_mid ty x ho b o hx cs d hc hu hd hi (hK _ _ h)
def dX : List Nat := 1 :: 2 :: 3 :: 4 :: List.replicate 28 0
def dY : List Nat := 5 :: 6 :: 7 :: 8 :: List.replicate 28 0
def dXY : List Nat := 62 :: 68 :: 92 :: 222 :: List.replicate 28 0
def dYX : List Nat := 40 :: 116 :: 230 :: 72 :: List.replicate 28 0
theorem dX_dg : Dg dX := ⟨rfl, by decide⟩
theorem dY_dg : Dg dY := ⟨rfl, by decide⟩
theorem nod_xy : nodS 4 dX dY = dXY := by
  have e0 : nodeB 4 dX dY = [1, 1, 2, 3, 4, 5, 6, 7, 8] := by decide
  unfold nodS sumD
  rw [e0, if_pos (by decide)]
  unfold hash hashW
  have e : [1, 1, 2, 3, 4, 5, 6, 7, 8] ++ pad [1, 1, 2, 3, 4, 5, 6, 7, 8].length = [1, 1, 2, 3, 4, 5, 6, 7, 8, 128] ++ List.replicate 53 0 ++ [72] := by decide
  rw [e, chain_step (by decide), chain_short (by decide), ← evC_eq]
  decide +kernel
theorem nod_yx : nodS 4 dY dX = dYX := by
  have e0 : nodeB 4 dY dX = [1, 5, 6, 7, 8, 1, 2, 3, 4] := by decide
  unfold nodS sumD
  rw [e0, if_pos (by decide)]
  unfold hash hashW
  have e : [1, 5, 6, 7, 8, 1, 2, 3, 4] ++ pad [1, 5, 6, 7, 8, 1, 2, 3, 4].length = [1, 5, 6, 7, 8, 1, 2, 3, 4, 128] ++ List.replicate 53 0 ++ [72] := by decide
  rw [e, chain_step (by decide), chain_short (by decide), ← evC_eq]
  decide +kernel
theorem spl2 : spl 2 = 1 := by decide
theorem form4 : formedE 4 [dX, dY] = 0 := by decide
theorem aw_root1 : rootE 4 dX 1 2 [dY] = 0 ∧ rootD 4 dX 1 2 [dY] = dYX := by
  have h := rootE_c (z := 4) (leaf := dX) (i := 1) (n := 2) (p := [dY]) form4 (by decide)
  have e : clD 4 dX [dY].reverse 1 2 = some dYX := by
    show clD 4 dX [dY] 1 2 = _
    simp [clD, spl2, nod_yx]
  rw [e] at h
  exact h
theorem aw_root0 : rootE 4 dX 0 2 [dY] = 0 ∧ rootD 4 dX 0 2 [dY] = dXY := by
  have h := rootE_c (z := 4) (leaf := dX) (i := 0) (n := 2) (p := [dY]) form4 (by decide)
  have e : clD 4 dX [dY].reverse 0 2 = some dXY := by
    show clD 4 dX [dY] 0 2 = _
    simp [clD, spl2, nod_xy]
  rw [e] at h
  exact h
theorem aw_roots : rootsE 4 dX 1 2 [dY] = 0 ∧ rootsD 4 dX 1 2 [dY] = (dX, dXY) := by
  have h := rootsE_c (z := 4) (old := dX) (m := 1) (n := 2) (p := [dY]) form4 (by decide)
  have e : twD 4 dX [dY].reverse 1 2 true = some (dX, dXY) := by
    show twD 4 dX [dY] 1 2 true = _
    simp [twD, spl2, nod_xy]
  rw [e] at h
  exact h
theorem aw_inc : incE 4 dX 1 2 [dY] dXY = 10 := by
  unfold incE
  rw [show formedE 4 [dX, dXY, dY] = 0 by decide, aw_root1.1, aw_root1.2]
  decide

set_option maxRecDepth 100000 in
set_option maxHeartbeats 2000000 in
theorem mawake_any (w : World) (hT : Tabs w) :
    Calls Tryd.prog 12 #[] w fun e w' => e = .returned (.bool true) ∧ Kept [] w w' := by
  have HT := hide hT
  clear hT
  have hyl : dY.length = 32 := rfl
  go_enter Tryd.func12, Tryd.ntmps12
  have HA0 := hide (((Kept.refl [] (w.alloc (.cells (zb 32) 23))).alloc (.cells (zb 32) 23)).heap (heap_alloc_new w (.cells (zb 32) 23)) (by simp))
  have HA1 := hide (alloc_at w (.cells (zb 32) 23) (.cells (zb 32) 23))
  obtain ⟨W0, hW0⟩ : ∃ W0, (w.alloc (.cells (zb 32) 23)).alloc (.cells (zb 32) 23) = W0 := ⟨_, rfl⟩
  have HK0 := hide (by rw [← hW0]; exact (((Kept.refl [] w).alloc (.cells (zb 32) 23)).alloc (.cells (zb 32) 23)) : Kept [] w W0)
  rw [hW0] at HA0 HA1
  have hsz : W0.heap.size = w.heap.size + 1 + 1 := by rw [← hW0]; simp
  have HB1 := hide ((setRow_other W0 w.heap.size (w.heap.size + 1) (brow dX) (by omega)).trans (unhide HA1))
  have HX1 := hide ((setRow_other (W0.setRow w.heap.size (brow dX)) (w.heap.size + 1) w.heap.size (brow dY) (by omega)).trans (setRow_heap W0 _ _ (brow dX) _ _ (unhide HA0)))
  have HY1 := hide (setRow_heap (W0.setRow w.heap.size (brow dX)) _ _ (brow dY) _ _ (unhide HB1))
  have HK1 := hide (((unhide HK0).setRow (g := w.heap.size) (Or.inr (by omega)) (brow dX)).setRow (g := w.heap.size + 1) (Or.inr (by omega)) (brow dY))
  go_wp2_with (first
    | (refine wpList_build_as rfl 23 #[(0, .const (.int .u8 1)), (1, .const (.int .u8 2)), (2, .const (.int .u8 3)), (3, .const (.int .u8 4))] rfl (brow dX) (by kernel_rfl) ?_)
    | (refine wpList_build_as rfl 23 #[(0, .const (.int .u8 5)), (1, .const (.int .u8 6)), (2, .const (.int .u8 7)), (3, .const (.int .u8 8))] rfl (brow dY) (by kernel_rfl) ?_)
    | (rw [zb32, hW0]; refine wpList_store_row rfl 23 _ _ rfl w.heap.size (brow dX) rfl rfl _ (zb 32) (unhide HA0) (by kernel_rfl) (by kernel_rfl) (brow_one _) ?_)
    | (refine wpList_store_row rfl 23 _ _ rfl (w.heap.size + 1) (brow dY) rfl rfl _ (zb 32) (unhide HB1) (by kernel_rfl) (by kernel_rfl) (brow_one _) ?_)
    | (refine wpList_load_row rfl 23 _ rfl w.heap.size rfl _ (brow dX) (0, 0) _ (unhide HX1) Tryd.underlying23 rfl (by kernel_rfl) ?_)
    | (refine wpList_load_mid rfl 23 _ rfl (w.heap.size + 1) 0 rfl (dY.map u8) _ (range_row (unhide HY1)) Tryd.underlying23 rfl (by kernel_rfl) ?_))
  rw [zb32, one_dig dY rfl]
  obtain ⟨W1, hW1⟩ : ∃ W1, (W0.setRow w.heap.size (brow dX)).setRow (w.heap.size + 1) (brow dY) = W1 := ⟨_, rfl⟩
  have hs1 : w.heap.size + 1 + 1 = W1.heap.size := by rw [← hW1, ← hsz]; simp
  rw [hW1] at HX1 HY1 HK1
  rw [hW1, hs1]
  clear hW1 hW0 HA0 HA1 HB1 HK0
  have kc2 := (Kept.refl [] W1).alloc (.cells (brow dY) 23)
  refine Calls.mono (rootOf_any 4 dX 1 2 _ [dY] _ (by decide) dX_dg (by decide) (by decide) (RdD.one (heap_alloc_new W1 _) dY_dg) ((unhide HT).k ((unhide HK1).trans kc2 (by simp)))) ?_
  rintro e w2 ⟨rfl, k2⟩
  rw [aw_root1.1, aw_root1.2]
  have kk2 := kc2.trans k2 (by simp)
  have HK2 := hide ((unhide HK1).trans kk2 (by simp))
  have HX2 := hide (kk2.heap (unhide HX1) (by simp))
  have HY2 := hide (kk2.heap (unhide HY1) (by simp))
  clear kc2 k2 kk2 HX1 HY1
  have kd := ((Kept.refl [] w2).alloc (.cells (zb 32) 23)).setRow (g := w2.heap.size) (Or.inr (Nat.le_refl _)) (brow dYX)
  have HDd := hide (setRow_heap (w2.alloc (.cells (zb 32) 23)) w2.heap.size (zb 32) (brow dYX) 23 (0, 0) (heap_alloc_new _ _))
  have HX3 := hide (kd.heap (unhide HX2) (by simp))
  have HY3 := hide (kd.heap (unhide HY2) (by simp))
  have HK3 := hide ((unhide HK2).trans kd (by simp))
  clear kd HX2 HY2
  go_wp2_with (first
    | (rw [zb32]; refine wpList_store_row rfl 23 _ _ rfl w2.heap.size (brow dYX) rfl rfl _ (zb 32) (heap_alloc_new _ _) (by kernel_rfl) (by kernel_rfl) (brow_one _) ?_)
    | (refine wpList_load_row rfl 23 _ rfl w.heap.size rfl _ (brow dX) (0, 0) _ (unhide HX3) Tryd.underlying23 rfl (by kernel_rfl) ?_)
    | (refine wpList_load_mid rfl 23 _ rfl (w.heap.size + 1) 0 rfl (dY.map u8) _ (range_row (unhide HY3)) Tryd.underlying23 rfl (by kernel_rfl) ?_))
  rw [zb32, one_dig dY rfl]
  obtain ⟨W3, hW3⟩ : ∃ W3, (w2.alloc (.cells (zb 32) 23)).setRow w2.heap.size (brow dYX) = W3 := ⟨_, rfl⟩
  have hs3 : w2.heap.size + 1 = W3.heap.size := by rw [← hW3]; simp
  rw [hW3] at HX3 HY3 HK3 HDd
  rw [hW3, hs3]
  clear hW3
  have kc4 := (Kept.refl [] W3).alloc (.cells (brow dY) 23)
  refine Calls.mono (rootsOf_any 4 1 2 dX _ [dY] _ (by decide) dX_dg (by decide) (by decide) (RdD.one (heap_alloc_new W3 _) dY_dg) ((unhide HT).k ((unhide HK3).trans kc4 (by simp)))) ?_
  rintro e w4 ⟨rfl, k4⟩
  rw [aw_roots.1, aw_roots.2]
  have kk4 := kc4.trans k4 (by simp)
  have HK4 := hide ((unhide HK3).trans kk4 (by simp))
  have HX4 := hide (kk4.heap (unhide HX3) (by simp))
  have HY4 := hide (kk4.heap (unhide HY3) (by simp))
  have HD4 := hide (kk4.heap (unhide HDd) (by simp))
  clear kc4 k4 kk4 HX3 HY3 HDd
  have ka := (((Kept.refl [] w4).alloc (.cells (zb 32) 23)).alloc (.cells (zb 32) 23))
  have kab := (ka.setRow (g := w4.heap.size) (Or.inr (Nat.le_refl _)) (brow dX)).setRow (g := w4.heap.size + 1) (Or.inr (by omega)) (brow dXY)
  have HA0 := hide (((Kept.refl [] (w4.alloc (.cells (zb 32) 23))).alloc (.cells (zb 32) 23)).heap (heap_alloc_new w4 (.cells (zb 32) 23)) (by simp))
  have HB0 := hide ((setRow_other ((w4.alloc (.cells (zb 32) 23)).alloc (.cells (zb 32) 23)) w4.heap.size (w4.heap.size + 1) (brow dX) (by omega)).trans (alloc_at w4 (.cells (zb 32) 23) (.cells (zb 32) 23)))
  have HA5 := hide ((setRow_other (((w4.alloc (.cells (zb 32) 23)).alloc (.cells (zb 32) 23)).setRow w4.heap.size (brow dX)) (w4.heap.size + 1) w4.heap.size (brow dXY) (by omega)).trans (setRow_heap _ _ _ (brow dX) _ _ (unhide HA0)))
  have HB5 := hide (setRow_heap (((w4.alloc (.cells (zb 32) 23)).alloc (.cells (zb 32) 23)).setRow w4.heap.size (brow dX)) _ _ (brow dXY) _ _ (unhide HB0))
  have HX5 := hide (kab.heap (unhide HX4) (by simp))
  have HY5 := hide (kab.heap (unhide HY4) (by simp))
  have HD5 := hide (kab.heap (unhide HD4) (by simp))
  have HK5 := hide ((unhide HK4).trans kab (by simp))
  clear ka kab HX4 HY4 HD4
  go_wp2_with (first
    | (rw [zb32]; refine wpList_store_row rfl 23 _ _ rfl w4.heap.size (brow dX) rfl rfl _ (zb 32) (unhide HA0) (by kernel_rfl) (by kernel_rfl) (brow_one _) ?_)
    | (refine wpList_store_row rfl 23 _ _ rfl (w4.heap.size + 1) (brow dXY) rfl rfl _ (zb 32) (unhide HB0) (by kernel_rfl) (by kernel_rfl) (brow_one _) ?_)
    | (refine wpList_load_row rfl 23 _ rfl w.heap.size rfl _ (brow dX) (0, 0) _ (unhide HX5) Tryd.underlying23 rfl (by kernel_rfl) ?_)
    | (refine wpList_load_mid rfl 23 _ rfl (w.heap.size + 1) 0 rfl (dY.map u8) _ (range_row (unhide HY5)) Tryd.underlying23 rfl (by kernel_rfl) ?_))
  rw [zb32, one_dig dY rfl]
  obtain ⟨W5, hW5⟩ : ∃ W5, (((w4.alloc (.cells (zb 32) 23)).alloc (.cells (zb 32) 23)).setRow w4.heap.size (brow dX)).setRow (w4.heap.size + 1) (brow dXY) = W5 := ⟨_, rfl⟩
  have hs5 : w4.heap.size + 1 + 1 = W5.heap.size := by rw [← hW5]; simp
  rw [hW5] at HX5 HY5 HK5 HD5 HA5 HB5
  rw [hW5, hs5]
  clear hW5 HA0 HB0
  have kc6 := (Kept.refl [] W5).alloc (.cells (brow dY) 23)
  refine Calls.mono (docRootOf_any 4 dX 1 2 _ [dY] _ (by decide) dX_dg (by decide) (by decide) (RdD.one (heap_alloc_new W5 _) dY_dg) (by decide)) ?_
  rintro e w6 ⟨rfl, k6⟩
  rw [aw_root1.1, aw_root1.2]
  have kk6 := kc6.trans k6 (by simp)
  have HK6 := hide ((unhide HK5).trans kk6 (by simp))
  have HX6 := hide (kk6.heap (unhide HX5) (by simp))
  have HY6 := hide (kk6.heap (unhide HY5) (by simp))
  have HD6 := hide (kk6.heap (unhide HD5) (by simp))
  have HA6 := hide (kk6.heap (unhide HA5) (by simp))
  have HB6 := hide (kk6.heap (unhide HB5) (by simp))
  clear kc6 k6 kk6 HX5 HY5 HD5 HA5 HB5
  have kk7 := ((Kept.refl [] w6).alloc (.cells (zb 32) 23)).setRow (g := w6.heap.size) (Or.inr (Nat.le_refl _)) (brow dYX)
  have HS7 := hide (setRow_heap (w6.alloc (.cells (zb 32) 23)) w6.heap.size (zb 32) (brow dYX) 23 (0, 0) (heap_alloc_new _ _))
  have HK7 := hide ((unhide HK6).trans kk7 (by simp))
  have HX7 := hide (kk7.heap (unhide HX6) (by simp))
  have HY7 := hide (kk7.heap (unhide HY6) (by simp))
  have HD7 := hide (kk7.heap (unhide HD6) (by simp))
  have HA7 := hide (kk7.heap (unhide HA6) (by simp))
  have HB7 := hide (kk7.heap (unhide HB6) (by simp))
  clear kk7 HX6 HY6 HD6 HA6 HB6
  go_wp2_with (first
    | (rw [zb32]; refine wpList_store_row rfl 23 _ _ rfl w6.heap.size (brow dYX) rfl rfl _ (zb 32) (heap_alloc_new _ _) (by kernel_rfl) (by kernel_rfl) (brow_one _) ?_)
    | (refine wpList_load_row rfl 23 _ rfl w.heap.size rfl _ (brow dX) (0, 0) _ (unhide HX7) Tryd.underlying23 rfl (by kernel_rfl) ?_)
    | (refine wpList_load_mid rfl 23 _ rfl (w.heap.size + 1) 0 rfl (dY.map u8) _ (range_row (unhide HY7)) Tryd.underlying23 rfl (by kernel_rfl) ?_))
  rw [zb32, one_dig dY rfl]
  obtain ⟨W7, hW7⟩ : ∃ W7, (w6.alloc (.cells (zb 32) 23)).setRow w6.heap.size (brow dYX) = W7 := ⟨_, rfl⟩
  have hs7 : w6.heap.size + 1 = W7.heap.size := by rw [← hW7]; simp
  rw [hW7] at HK7 HX7 HY7 HD7 HA7 HB7 HS7
  rw [hW7, hs7]
  clear hW7
  have kc8 := (Kept.refl [] W7).alloc (.cells (brow dY) 23)
  refine Calls.mono (docRootOf_any 4 dX 0 2 _ [dY] _ (by decide) dX_dg (by decide) (by decide) (RdD.one (heap_alloc_new W7 _) dY_dg) (by decide)) ?_
  rintro e w8 ⟨rfl, k8⟩
  rw [aw_root0.1, aw_root0.2]
  have kk8 := kc8.trans k8 (by simp)
  have HK8 := hide ((unhide HK7).trans kk8 (by simp))
  have HX8 := hide (kk8.heap (unhide HX7) (by simp))
  have HY8 := hide (kk8.heap (unhide HY7) (by simp))
  have HD8 := hide (kk8.heap (unhide HD7) (by simp))
  have HA8 := hide (kk8.heap (unhide HA7) (by simp))
  have HB8 := hide (kk8.heap (unhide HB7) (by simp))
  have HS8 := hide (kk8.heap (unhide HS7) (by simp))
  clear kc8 k8 kk8 HX7 HY7 HD7 HA7 HB7 HS7
  have kk9 := ((Kept.refl [] w8).alloc (.cells (zb 32) 23)).setRow (g := w8.heap.size) (Or.inr (Nat.le_refl _)) (brow dXY)
  have HT9 := hide (setRow_heap (w8.alloc (.cells (zb 32) 23)) w8.heap.size (zb 32) (brow dXY) 23 (0, 0) (heap_alloc_new _ _))
  have HK9 := hide ((unhide HK8).trans kk9 (by simp))
  have HX9 := hide (kk9.heap (unhide HX8) (by simp))
  have HY9 := hide (kk9.heap (unhide HY8) (by simp))
  have HD9 := hide (kk9.heap (unhide HD8) (by simp))
  have HA9 := hide (kk9.heap (unhide HA8) (by simp))
  have HB9 := hide (kk9.heap (unhide HB8) (by simp))
  have HS9 := hide (kk9.heap (unhide HS8) (by simp))
  clear kk9 HX8 HY8 HD8 HA8 HB8 HS8
  have hq1 : ∀ W, (Op.equalIn 10000 23 (.agg (brow dYX)) (.agg (brow dYX))).run Tryd.prog W = .ok true W := fun W => by have := dig_eq W dYX dYX rfl rfl; rwa [decide_eq_true rfl] at this
  have hq2 : ∀ W, (Op.equalIn 10000 23 (.agg (brow dX)) (.agg (brow dX))).run Tryd.prog W = .ok true W := fun W => by have := dig_eq W dX dX rfl rfl; rwa [decide_eq_true rfl] at this
  have hq3 : ∀ W, (Op.equalIn 10000 23 (.agg (brow dXY)) (.agg (brow dXY))).run Tryd.prog W = .ok true W := fun W => by have := dig_eq W dXY dXY rfl rfl; rwa [decide_eq_true rfl] at this
  have hq4 : ∀ W, (Op.equalIn 10000 23 (.agg (brow dYX)) (.agg (zb 32))).run Tryd.prog W = .ok false W := fun W => by have := dig_eq W dYX zD rfl rfl; rw [decide_eq_false (by decide)] at this; exact this
  rw [← zb32] at hq4
  have HT9' := hide (((Kept.refl [] ((w8.alloc (.cells (zb 32) 23)).setRow w8.heap.size (brow dXY))).alloc (.cells (brow dY) 23)).heap (unhide HT9) (by simp))
  go_wp2_with (first
    | (rw [zb32]; refine wpList_store_row rfl 23 _ _ rfl w8.heap.size (brow dXY) rfl rfl _ (zb 32) (heap_alloc_new _ _) (by kernel_rfl) (by kernel_rfl) (brow_one _) ?_)
    | (refine wpList_load_rowG rfl 23 (.tmp 3) rfl w2.heap.size rfl _ (brow dYX) (0, 0) _ (unhide HD9) Tryd.underlying23 rfl (by kernel_rfl) ?_)
    | (refine wpList_load_rowG rfl 23 (.tmp 8) rfl w6.heap.size rfl _ (brow dYX) (0, 0) _ (unhide HS9) Tryd.underlying23 rfl (by kernel_rfl) ?_)
    | (refine wpList_load_rowG rfl 23 (.tmp 5) rfl w4.heap.size rfl _ (brow dX) (0, 0) _ (unhide HA9) Tryd.underlying23 rfl (by kernel_rfl) ?_)
    | (refine wpList_load_rowG rfl 23 (.tmp 1) rfl w.heap.size rfl _ (brow dX) (0, 0) _ (unhide HX9) Tryd.underlying23 rfl (by kernel_rfl) ?_)
    | (refine wpList_load_rowG rfl 23 (.tmp 6) rfl (w4.heap.size + 1) rfl _ (brow dXY) (0, 0) _ (unhide HB9) Tryd.underlying23 rfl (by kernel_rfl) ?_)
    | (refine wpList_load_rowG rfl 23 (.tmp 10) rfl w8.heap.size rfl _ (brow dXY) (0, 0) _ (unhide HT9) Tryd.underlying23 rfl (by kernel_rfl) ?_)
    | (rw [zb32, one_dig dY rfl]; refine wpList_load_rowG rfl 23 (.tmp 10) rfl w8.heap.size rfl _ (brow dXY) (0, 0) _ (unhide HT9') Tryd.underlying23 rfl (by kernel_rfl) ?_)
    | (refine wpList_load_midG rfl 23 (.tmp 2) rfl (w.heap.size + 1) 0 rfl (dY.map u8) _ (range_row (unhide HY9)) Tryd.underlying23 rfl (by kernel_rfl) ?_))
  clear hq1 hq2 hq3 hq4 HT9'
  obtain ⟨W9, hW9⟩ : ∃ W9, (w8.alloc (.cells (zb 32) 23)).setRow w8.heap.size (brow dXY) = W9 := ⟨_, rfl⟩
  have hs9 : w8.heap.size + 1 = W9.heap.size := by rw [← hW9]; simp
  rw [hW9] at HK9
  rw [hW9, hs9]
  clear hW9 HX9 HY9 HD9 HA9 HB9 HS9 HT9
  have kc := (Kept.refl [] W9).alloc (.cells (brow dY) 23)
  refine Calls.mono (inclusion_any 4 dX 1 2 _ [dY] dXY _ (by decide) dX_dg ⟨rfl, by decide⟩ (by decide) (by decide) (RdD.one (heap_alloc_new W9 _) dY_dg) ((unhide HT).k ((unhide HK9).trans kc (by simp)))) ?_
  rintro e w10 ⟨rfl, k10⟩
  have HK10 := hide (((unhide HK9).trans kc (by simp)).trans k10 (by simp))
  rw [aw_inc]
  clear k10 kc
  go_wp2
  go_ret
  exact ⟨rfl, unhide HK10⟩
end Go.Proofs.YthafpaenggcpdaaDoor
namespace Go.Proofs.YthafpaenggcpdaaDoor
open Go.RowKit Go.BigFrame
set_option linter.unusedVariables false
set_option linter.unusedSimpArgs false

/-- What DocInclusion answers. -/
def dincE (z : Int) (leaf : List Nat) (i n : Nat) (p : List (List Nat)) (root : List Nat) : Nat := if formedE z [root] ≠ 0 then formedE z [root] else if rootE z leaf i n p ≠ 0 then rootE z leaf i n p else if rootD z leaf i n p = root then 0 else 10
theorem dinc_eq (z : Int) (leaf : List Nat) (i n : Nat) (p : List (List Nat)) (root : List Nat) : incE z leaf i n p root = dincE z leaf i n p root := by
  have key : ∀ ds : List (List Nat), formedE z ds = if widthB z = false then 1 else if ds.all (formB z) then 0 else 3 := fun ds => rfl
  unfold incE dincE
  cases hw : widthB z with
  | false =>
    have h1 : ∀ ds, formedE z ds = 1 := fun ds => by rw [key, if_pos hw]
    rw [h1, h1]
  | true =>
    have h1 : ∀ ds : List (List Nat), formedE z ds = if ds.all (formB z) then 0 else 3 := fun ds => by rw [key, if_neg (by rw [hw]; simp)]
    cases hr : formB z root with
    | false =>
      have a1 : formedE z (leaf :: root :: p) = 3 := by rw [h1, if_neg (by simp [hr])]
      have a2 : formedE z [root] = 3 := by rw [h1, if_neg (by simp [hr])]
      rw [a1, a2]
    | true =>
      have a2 : formedE z [root] = 0 := by rw [h1, if_pos (by simp [hr])]
      have a1 : formedE z (leaf :: root :: p) = formedE z (leaf :: p) := by rw [h1, h1]; simp [hr]
      rw [a1, a2, if_neg (show ¬ (0 : Nat) ≠ 0 by decide)]
      by_cases h : formedE z (leaf :: p) = 0
      · rw [if_neg (by omega)]
      · rw [if_pos h, if_pos (by rw [(rootE_f h).1]; exact h), (rootE_f h).1]

set_option maxRecDepth 100000 in
set_option maxHeartbeats 2000000 in
theorem docInclusion_any (z : Int) (leaf : List Nat) (i n : Nat) (pv : Value) (p : List (List Nat)) (root : List Nat) (w : World) (hz : -9223372036854775808 ≤ z ∧ z ≤ 9223372036854775807) (hl : Dg leaf) (hr : Dg root) (hi : i < 18446744073709551616) (hn : n < 18446744073709551616) (hp : RdD w pv p) (hpl : p.length ≤ 1048576) :
    Calls Tryd.prog 14 #[.int .i64 z, .agg (brow leaf), .int .u64 i, .int .u64 n, pv, .agg (brow root)] w fun e w' => e = .returned (.int .i64 (dincE z leaf i n p root)) ∧ Kept [] w w' := by
  have HP := hide hp
  obtain ⟨ao, len, cap, rfl, h1, h2, h3, h4, h5⟩ := hp
  clear h4 h5
  have HL := hide hl
  have HR := hide hr
  have hll := hl.1
  have hrl := hr.1
  obtain ⟨E, hE⟩ : ∃ E, dincE z leaf i n p root = E := ⟨_, rfl⟩
  have HE := hide hE
  rw [hE]
  clear hE
  go_enter Tryd.func14, Tryd.ntmps14
  have HGL := hide (((Kept.refl [] (w.alloc (.cells (brow leaf) 23))).alloc (.cells (brow root) 23)).heap (heap_alloc_new w (.cells (brow leaf) 23)) (by simp))
  have HGR := hide (alloc_at w (.cells (brow leaf) 23) (.cells (brow root) 23))
  have HK0 := hide (((Kept.refl [] w).alloc (.cells (brow leaf) 23)).alloc (.cells (brow root) 23))
  have HSL := hide (by rw [List.length_map, hll]; exact Tryd.size_dig : (Tryd.prog.info? 23).map (·.size) = some (leaf.map u8).length)
  have HSM := hide (by rw [List.length_map, hrl]; exact Tryd.size_dig : (Tryd.prog.info? 23).map (·.size) = some (root.map u8).length)
  go_wp2_with (refine wpList_load_mid rfl 23 _ rfl (w.heap.size + 1) 0 rfl (root.map u8) _ (range_row (unhide HGR)) Tryd.underlying23 rfl (unhide HSM) ?_)
  rw [zb32, one_dig root hrl]
  have k0 := (Kept.refl [] ((w.alloc (.cells (brow leaf) 23)).alloc (.cells (brow root) 23))).alloc (.cells (brow root) 23)
  refine Calls.mono (refCheck_any z _ [root] _ hz (RdD.one (alloc3_at _ _ _ _) (unhide HR))) ?_
  rintro e w1 ⟨rfl, k1⟩
  have k01 := k0.trans k1 (by simp)
  have HK1 := hide ((unhide HK0).trans k01 (by simp))
  have HL1 := hide (k01.heap (unhide HGL) (by simp))
  have HR1 := hide (k01.heap (unhide HGR) (by simp))
  clear k0 k1 k01 HGL HGR
  obtain ⟨f, hf⟩ : ∃ f, formedE z [root] = f := ⟨_, rfl⟩
  have HF := hide hf
  rw [hf]
  clear hf
  go_wp2_with (refine wpList_load_mid rfl 23 _ rfl w.heap.size 0 rfl (leaf.map u8) _ (range_row (unhide HL1)) Tryd.underlying23 rfl (unhide HSL) ?_)
  refine Calls.mono (docRootOf_any z leaf i n _ p _ hz (unhide HL) hi hn ((unhide HP).old (unhide HK1)) hpl) ?_
  rintro e w2 ⟨rfl, k2⟩
  have HDG := hide (rootD_dg (z := z) (i := i) (n := n) (p := p) (unhide HL))
  obtain ⟨D, hD⟩ : ∃ D, rootD z leaf i n p = D := ⟨_, rfl⟩
  obtain ⟨G, hG⟩ : ∃ G, rootE z leaf i n p = G := ⟨_, rfl⟩
  rw [hD] at HDG
  have hdl := (unhide HDG).1
  have HD := hide hD
  have HG := hide hG
  rw [hD, hG]
  clear hD hG
  have HR2 := hide (k2.heap (unhide HR1) (by simp))
  have HK2 := hide ((unhide HK1).trans k2 (by simp))
  clear k2 HL1 HR1
  have HSO := hide (by rw [brow_size, hdl]; exact Tryd.size_dig : (Tryd.prog.info? 23).map (·.size) = some (brow D).size)
  have HSOL := hide (by rw [List.length_map, hdl]; exact Tryd.size_dig : (Tryd.prog.info? 23).map (·.size) = some (D.map u8).length)
  have HNW := hide (setRow_heap (w2.alloc (.cells (zb 32) 23)) w2.heap.size (zb 32) (brow D) 23 (0, 0) (heap_alloc_new _ _))
  have k5 := ((Kept.refl [] w2).alloc (.cells (zb 32) 23)).setRow (g := w2.heap.size) (Or.inr (Nat.le_refl _)) (brow D)
  have HR5 := hide (k5.heap (unhide HR2) (by simp))
  have HK5 := hide ((unhide HK2).trans k5 (by simp))
  clear k5 HR2
  have HEE := hide (by rw [← unhide HE]; unfold dincE; rw [unhide HF, unhide HD, unhide HG] : E = if f ≠ 0 then f else if G ≠ 0 then G else if D = root then 0 else 10)
  by_cases hf0 : f = 0
  · subst hf0
    by_cases hg0 : G = 0
    · subst hg0
      have hqd : ∀ W, (Op.equalIn 10000 23 (.agg (D.map u8).toArray) (.agg (root.map u8).toArray)).run Tryd.prog W = .ok (decide (D = root)) W := fun W => dig_eq W D root hdl hrl
      by_cases hdr : D = root
      · have HC := hide (by rw [unhide HEE]; simp [hdr] : E = 0)
        rw [decide_eq_true hdr] at hqd
        clear hdr
        go_wp2_with (first
          | (rw [zb32]; refine wpList_store_row rfl 23 _ _ rfl w2.heap.size (brow D) rfl rfl _ (zb 32) (heap_alloc_new _ _) (unhide HSO) (by rw [zb_size, brow_size, hdl]) (brow_one _) ?_)
          | (refine wpList_load_mid rfl 23 _ rfl w2.heap.size 0 rfl (D.map u8) _ (range_row (unhide HNW)) Tryd.underlying23 rfl (unhide HSOL) ?_)
          | (refine wpList_load_mid rfl 23 _ rfl (w.heap.size + 1) 0 rfl (root.map u8) _ (range_row (unhide HR5)) Tryd.underlying23 rfl (unhide HSM) ?_))
        go_ret
        exact ⟨by rw [unhide HC]; rfl, unhide HK5⟩
      · have HC := hide (by rw [unhide HEE]; simp [hdr] : E = 10)
        rw [decide_eq_false hdr] at hqd
        clear hdr
        go_wp2_with (first
          | (rw [zb32]; refine wpList_store_row rfl 23 _ _ rfl w2.heap.size (brow D) rfl rfl _ (zb 32) (heap_alloc_new _ _) (unhide HSO) (by rw [zb_size, brow_size, hdl]) (brow_one _) ?_)
          | (refine wpList_load_mid rfl 23 _ rfl w2.heap.size 0 rfl (D.map u8) _ (range_row (unhide HNW)) Tryd.underlying23 rfl (unhide HSOL) ?_)
          | (refine wpList_load_mid rfl 23 _ rfl (w.heap.size + 1) 0 rfl (root.map u8) _ (range_row (unhide HR5)) Tryd.underlying23 rfl (unhide HSM) ?_))
        go_ret
        exact ⟨by rw [unhide HC]; rfl, unhide HK5⟩
    · have hb : ((G : Int) != 0) = true := by simp; omega
      have HC := hide (by rw [unhide HEE]; simp [hg0] : E = G)
      go_wp2_with (rw [zb32]; refine wpList_store_row rfl 23 _ _ rfl w2.heap.size (brow D) rfl rfl _ (zb 32) (heap_alloc_new _ _) (unhide HSO) (by rw [zb_size, brow_size, hdl]) (brow_one _) ?_)
      go_ret
      exact ⟨by rw [unhide HC]; rfl, unhide HK5⟩
  · have hb : ((f : Int) != 0) = true := by simp; omega
    have HC := hide (by rw [unhide HEE]; simp [hf0] : E = f)
    go_wp2_with (rw [zb32]; refine wpList_store_row rfl 23 _ _ rfl w2.heap.size (brow D) rfl rfl _ (zb 32) (heap_alloc_new _ _) (unhide HSO) (by rw [zb_size, brow_size, hdl]) (brow_one _) ?_)
    go_ret
    exact ⟨by rw [unhide HC]; rfl, unhide HK5⟩
end Go.Proofs.YthafpaenggcpdaaDoor
/-
  'e := f(q.A, .., twin(q.P), ..)': reads, two calls one behind the other, an assign; the reads may come up behind the first call. One law for all orders.
-/
namespace Go.Proofs.YthafpaenggcpdaaDoor
open Go Go.RowKit Go.BigFrame
set_option linter.unusedVariables false
set_option linter.unusedSimpArgs false
section
variable {P : Program} {Q : Exit → Act → World → Prop}
theorem wp_ask12 {id : Nat} {o0 o1 o2 o3 o4 o5 o6 o7 o8 o9 o10 o11 o12 o13 o14 : Oper} {a : Act} {w : World} (S : World → Prop) (hm : P.follows .mixedOrders = true) (hs : Region.noSelect #[o0, o1, o2, o3, o4, o5, o6, o7, o8, o9, o10, o11, o12, o13, o14] = true)
    (f0 : Region.free .any #[o0, o1, o2, o3, o4, o5, o6, o7, o8, o9, o10, o11, o12, o13, o14] #[false, false, false, false, false, false, false, false, false, false, false, false, false, false, false] 0 = true) (r0 : (Region.ready .any #[o0, o1, o2, o3, o4, o5, o6, o7, o8, o9, o10, o11, o12, o13, o14] #[false, false, false, false, false, false, false, false, false, false, false, false, false, false, false]).contains 0 = true)
    (f1 : Region.free .any #[o0, o1, o2, o3, o4, o5, o6, o7, o8, o9, o10, o11, o12, o13, o14] #[true, false, false, false, false, false, false, false, false, false, false, false, false, false, false] 1 = true) (r1 : (Region.ready .any #[o0, o1, o2, o3, o4, o5, o6, o7, o8, o9, o10, o11, o12, o13, o14] #[true, false, false, false, false, false, false, false, false, false, false, false, false, false, false]).contains 1 = true)
    (f2 : Region.free .any #[o0, o1, o2, o3, o4, o5, o6, o7, o8, o9, o10, o11, o12, o13, o14] #[true, true, false, false, false, false, false, false, false, false, false, false, false, false, false] 2 = true) (r2 : (Region.ready .any #[o0, o1, o2, o3, o4, o5, o6, o7, o8, o9, o10, o11, o12, o13, o14] #[true, true, false, false, false, false, false, false, false, false, false, false, false, false, false]).contains 2 = true)
    (f3 : Region.free .any #[o0, o1, o2, o3, o4, o5, o6, o7, o8, o9, o10, o11, o12, o13, o14] #[true, true, true, false, false, false, false, false, false, false, false, false, false, false, false] 3 = true) (r3 : (Region.ready .any #[o0, o1, o2, o3, o4, o5, o6, o7, o8, o9, o10, o11, o12, o13, o14] #[true, true, true, false, false, false, false, false, false, false, false, false, false, false, false]).contains 3 = true)
    (f4 : Region.free .any #[o0, o1, o2, o3, o4, o5, o6, o7, o8, o9, o10, o11, o12, o13, o14] #[true, true, true, true, false, false, false, false, false, false, false, false, false, false, false] 4 = true) (r4 : (Region.ready .any #[o0, o1, o2, o3, o4, o5, o6, o7, o8, o9, o10, o11, o12, o13, o14] #[true, true, true, true, false, false, false, false, false, false, false, false, false, false, false]).contains 4 = true)
    (f5 : Region.free .any #[o0, o1, o2, o3, o4, o5, o6, o7, o8, o9, o10, o11, o12, o13, o14] #[true, true, true, true, true, false, false, false, false, false, false, false, false, false, false] 5 = true) (r5 : (Region.ready .any #[o0, o1, o2, o3, o4, o5, o6, o7, o8, o9, o10, o11, o12, o13, o14] #[true, true, true, true, true, false, false, false, false, false, false, false, false, false, false]).contains 5 = true)
    (f6 : Region.free .any #[o0, o1, o2, o3, o4, o5, o6, o7, o8, o9, o10, o11, o12, o13, o14] #[true, true, true, true, true, true, false, false, false, false, false, false, false, false, false] 6 = true) (r6 : (Region.ready .any #[o0, o1, o2, o3, o4, o5, o6, o7, o8, o9, o10, o11, o12, o13, o14] #[true, true, true, true, true, true, false, false, false, false, false, false, false, false, false]).contains 6 = true)
    (f7 : Region.free .any #[o0, o1, o2, o3, o4, o5, o6, o7, o8, o9, o10, o11, o12, o13, o14] #[true, true, true, true, true, true, true, false, false, false, false, false, false, false, false] 7 = true) (r7 : (Region.ready .any #[o0, o1, o2, o3, o4, o5, o6, o7, o8, o9, o10, o11, o12, o13, o14] #[true, true, true, true, true, true, true, false, false, false, false, false, false, false, false]).contains 7 = true)
    (f8 : Region.free .any #[o0, o1, o2, o3, o4, o5, o6, o7, o8, o9, o10, o11, o12, o13, o14] #[true, true, true, true, true, true, true, true, false, false, false, false, false, false, false] 8 = true) (r8 : (Region.ready .any #[o0, o1, o2, o3, o4, o5, o6, o7, o8, o9, o10, o11, o12, o13, o14] #[true, true, true, true, true, true, true, true, false, false, false, false, false, false, false]).contains 8 = true)
    (f9 : Region.free .any #[o0, o1, o2, o3, o4, o5, o6, o7, o8, o9, o10, o11, o12, o13, o14] #[true, true, true, true, true, true, true, true, true, false, false, false, false, false, false] 9 = true) (r9 : (Region.ready .any #[o0, o1, o2, o3, o4, o5, o6, o7, o8, o9, o10, o11, o12, o13, o14] #[true, true, true, true, true, true, true, true, true, false, false, false, false, false, false]).contains 9 = true)
    (f11 : Region.free .any #[o0, o1, o2, o3, o4, o5, o6, o7, o8, o9, o10, o11, o12, o13, o14] #[true, true, true, true, true, true, true, true, true, true, false, false, false, false, false] 11 = true) (r11 : (Region.ready .any #[o0, o1, o2, o3, o4, o5, o6, o7, o8, o9, o10, o11, o12, o13, o14] #[true, true, true, true, true, true, true, true, true, true, false, false, false, false, false]).contains 11 = true)
    (f12 : Region.free .any #[o0, o1, o2, o3, o4, o5, o6, o7, o8, o9, o10, o11, o12, o13, o14] #[true, true, true, true, true, true, true, true, true, true, false, true, false, false, false] 12 = true) (r12 : (Region.ready .any #[o0, o1, o2, o3, o4, o5, o6, o7, o8, o9, o10, o11, o12, o13, o14] #[true, true, true, true, true, true, true, true, true, true, false, true, false, false, false]).contains 12 = true)
    (r10 : Region.ready .any #[o0, o1, o2, o3, o4, o5, o6, o7, o8, o9, o10, o11, o12, o13, o14] #[true, true, true, true, true, true, true, true, true, true, false, true, true, false, false] = [10])
    (r13 : Region.ready .any #[o0, o1, o2, o3, o4, o5, o6, o7, o8, o9, o10, o11, o12, o13, o14] #[true, true, true, true, true, true, true, true, true, true, true, true, true, false, false] = [13])
    (f14 : Region.free .any #[o0, o1, o2, o3, o4, o5, o6, o7, o8, o9, o10, o11, o12, o13, o14] #[true, true, true, true, true, true, true, true, true, true, true, true, true, true, false] 14 = true) (r14 : (Region.ready .any #[o0, o1, o2, o3, o4, o5, o6, o7, o8, o9, o10, o11, o12, o13, o14] #[true, true, true, true, true, true, true, true, true, true, true, true, true, true, false]).contains 14 = true)
    (rr : Region.ready .any #[o0, o1, o2, o3, o4, o5, o6, o7, o8, o9, o10, o11, o12, o13, o14] #[true, true, true, true, true, true, true, true, true, true, true, true, true, true, true] = [])
    (g1 : o10.guard = none) (g2 : o13.guard = none) (hS : S w.drew) (v0 v1 v2 v3 v4 v5 v6 v7 v8 v9 v10 v11 : Value) (A0 A1 A2 A3 A4 A5 A6 A7 A8 A9 A10 A11 : Act)
    (p0 : a.put o0.dst v0 = A0) (p1 : A0.put o1.dst v1 = A1) (p2 : A1.put o2.dst v2 = A2) (p3 : A2.put o3.dst v3 = A3) (p4 : A3.put o4.dst v4 = A4) (p5 : A4.put o5.dst v5 = A5) (p6 : A5.put o6.dst v6 = A6) (p7 : A6.put o7.dst v7 = A7) (p8 : A7.put o8.dst v8 = A8) (p9 : A8.put o9.dst v9 = A9) (p10 : A9.put o11.dst v10 = A10) (p11 : A10.put o12.dst v11 = A11) 
    (hy0 : YieldsIf P #[o0, o1, o2, o3, o4, o5, o6, o7, o8, o9, o10, o11, o12, o13, o14] S o0 v0 a) (hy1 : YieldsIf P #[o0, o1, o2, o3, o4, o5, o6, o7, o8, o9, o10, o11, o12, o13, o14] S o1 v1 A0) (hy2 : YieldsIf P #[o0, o1, o2, o3, o4, o5, o6, o7, o8, o9, o10, o11, o12, o13, o14] S o2 v2 A1) (hy3 : YieldsIf P #[o0, o1, o2, o3, o4, o5, o6, o7, o8, o9, o10, o11, o12, o13, o14] S o3 v3 A2) (hy4 : YieldsIf P #[o0, o1, o2, o3, o4, o5, o6, o7, o8, o9, o10, o11, o12, o13, o14] S o4 v4 A3) (hy5 : YieldsIf P #[o0, o1, o2, o3, o4, o5, o6, o7, o8, o9, o10, o11, o12, o13, o14] S o5 v5 A4) (hy6 : YieldsIf P #[o0, o1, o2, o3, o4, o5, o6, o7, o8, o9, o10, o11, o12, o13, o14] S o6 v6 A5) (hy7 : YieldsIf P #[o0, o1, o2, o3, o4, o5, o6, o7, o8, o9, o10, o11, o12, o13, o14] S o7 v7 A6) (hy8 : YieldsIf P #[o0, o1, o2, o3, o4, o5, o6, o7, o8, o9, o10, o11, o12, o13, o14] S o8 v8 A7) (hy9 : YieldsIf P #[o0, o1, o2, o3, o4, o5, o6, o7, o8, o9, o10, o11, o12, o13, o14] S o9 v9 A8) (hy10 : YieldsIf P #[o0, o1, o2, o3, o4, o5, o6, o7, o8, o9, o10, o11, o12, o13, o14] S o11 v10 A9) (hy11 : YieldsIf P #[o0, o1, o2, o3, o4, o5, o6, o7, o8, o9, o10, o11, o12, o13, o14] S o12 v11 A10) 
    (R1 : Value → World → Prop) (k1 : ∀ K : Act → World → Prop, (∀ u w1, R1 u w1 → K (A11.put o10.dst u) w1) → o10.wp P A11 w.drew K (NoPanic Q)) (S1 : ∀ u w1, R1 u w1 → S w1)
    (R2 : Value → World → Value → World → Prop) (k2 : ∀ u w1, R1 u w1 → ∀ K : Act → World → Prop, (∀ v w2, R2 u w1 v w2 → K ((A11.put o10.dst u).put o13.dst v) w2) → o13.wp P (A11.put o10.dst u) w1 K (NoPanic Q)) (S2 : ∀ u w1 v w2, R1 u w1 → R2 u w1 v w2 → S w2)
    (hyl : ∀ u w1 v w2, R1 u w1 → R2 u w1 v w2 → YieldsIf P #[o0, o1, o2, o3, o4, o5, o6, o7, o8, o9, o10, o11, o12, o13, o14] S o14 v ((A11.put o10.dst u).put o13.dst v))
    (h : ∀ u w1 v w2, R1 u w1 → R2 u w1 v w2 → Q .normal (((A11.put o10.dst u).put o13.dst v).put o14.dst v) w2) :
    (Code.region id #[o0, o1, o2, o3, o4, o5, o6, o7, o8, o9, o10, o11, o12, o13, o14] true).wp P Q a w := by
  subst p0 p1 p2 p3 p4 p5 p6 p7 p8 p9 p10 p11
  refine wp_region_noPanic ?_
  refine wp_region_held_drew (S := S) hm hS (fun hH => ?_)
  show wpAnyH P .any #[o0, o1, o2, o3, o4, o5, o6, o7, o8, o9, o10, o11, o12, o13, o14] (NoPanic Q) S 15 #[false, false, false, false, false, false, false, false, false, false, false, false, false, false, false] a w.drew
  refine wpAnyH_take (i := 0) (oi := o0) rfl hs f0 r0 (fun _ _ _ h => h) hy0 hS ?_
  refine wpAnyH_take (i := 1) (oi := o1) rfl hs f1 r1 (fun _ _ _ h => h) hy1 hS ?_
  refine wpAnyH_take (i := 2) (oi := o2) rfl hs f2 r2 (fun _ _ _ h => h) hy2 hS ?_
  refine wpAnyH_take (i := 3) (oi := o3) rfl hs f3 r3 (fun _ _ _ h => h) hy3 hS ?_
  refine wpAnyH_take (i := 4) (oi := o4) rfl hs f4 r4 (fun _ _ _ h => h) hy4 hS ?_
  refine wpAnyH_take (i := 5) (oi := o5) rfl hs f5 r5 (fun _ _ _ h => h) hy5 hS ?_
  refine wpAnyH_take (i := 6) (oi := o6) rfl hs f6 r6 (fun _ _ _ h => h) hy6 hS ?_
  refine wpAnyH_take (i := 7) (oi := o7) rfl hs f7 r7 (fun _ _ _ h => h) hy7 hS ?_
  refine wpAnyH_take (i := 8) (oi := o8) rfl hs f8 r8 (fun _ _ _ h => h) hy8 hS ?_
  refine wpAnyH_take (i := 9) (oi := o9) rfl hs f9 r9 (fun _ _ _ h => h) hy9 hS ?_
  refine wpAnyH_take (i := 11) (oi := o11) rfl hs f11 r11 (fun _ _ _ h => h) hy10 hS ?_
  refine wpAnyH_take (i := 12) (oi := o12) rfl hs f12 r12 (fun _ _ _ h => h) hy11 hS ?_
  refine wpAnyH_ready (rs := [10]) r10 (by simp) (AllReadyH.cons (o := o10) rfl (fun K hK => ?_) AllReadyH.nil)
  have wa : ∀ y, Region.wanted o10 y = true := fun y => by unfold Region.wanted; rw [g1]
  rw [if_pos (wa _)]
  refine k1 K (fun u w1 h1 => hK.out _ _ (S1 u w1 h1) (fun _ => ?_))
  refine wpAnyH_ready (rs := [13]) r13 (by simp) (AllReadyH.cons (o := o13) rfl (fun K hK => ?_) AllReadyH.nil)
  have wb : ∀ y, Region.wanted o13 y = true := fun y => by unfold Region.wanted; rw [g2]
  rw [if_pos (wb _)]
  refine k2 u w1 h1 K (fun v w2 h2 => hK.out _ _ (S2 u w1 v w2 h1 h2) (fun _ => ?_))
  refine wpAnyH_take (i := 14) (oi := o14) rfl hs f14 r14 (fun _ _ _ h => h) (hyl u w1 v w2 h1 h2) (S2 u w1 v w2 h1 h2) ?_
  exact ⟨rr, NoPanic.normal (h u w1 v w2 h1 h2)⟩
theorem wp_ask11 {id : Nat} {o0 o1 o2 o3 o4 o5 o6 o7 o8 o9 o10 o11 o12 o13 : Oper} {a : Act} {w : World} (S : World → Prop) (hm : P.follows .mixedOrders = true) (hs : Region.noSelect #[o0, o1, o2, o3, o4, o5, o6, o7, o8, o9, o10, o11, o12, o13] = true)
    (f0 : Region.free .any #[o0, o1, o2, o3, o4, o5, o6, o7, o8, o9, o10, o11, o12, o13] #[false, false, false, false, false, false, false, false, false, false, false, false, false, false] 0 = true) (r0 : (Region.ready .any #[o0, o1, o2, o3, o4, o5, o6, o7, o8, o9, o10, o11, o12, o13] #[false, false, false, false, false, false, false, false, false, false, false, false, false, false]).contains 0 = true)
    (f1 : Region.free .any #[o0, o1, o2, o3, o4, o5, o6, o7, o8, o9, o10, o11, o12, o13] #[true, false, false, false, false, false, false, false, false, false, false, false, false, false] 1 = true) (r1 : (Region.ready .any #[o0, o1, o2, o3, o4, o5, o6, o7, o8, o9, o10, o11, o12, o13] #[true, false, false, false, false, false, false, false, false, false, false, false, false, false]).contains 1 = true)
    (f2 : Region.free .any #[o0, o1, o2, o3, o4, o5, o6, o7, o8, o9, o10, o11, o12, o13] #[true, true, false, false, false, false, false, false, false, false, false, false, false, false] 2 = true) (r2 : (Region.ready .any #[o0, o1, o2, o3, o4, o5, o6, o7, o8, o9, o10, o11, o12, o13] #[true, true, false, false, false, false, false, false, false, false, false, false, false, false]).contains 2 = true)
    (f3 : Region.free .any #[o0, o1, o2, o3, o4, o5, o6, o7, o8, o9, o10, o11, o12, o13] #[true, true, true, false, false, false, false, false, false, false, false, false, false, false] 3 = true) (r3 : (Region.ready .any #[o0, o1, o2, o3, o4, o5, o6, o7, o8, o9, o10, o11, o12, o13] #[true, true, true, false, false, false, false, false, false, false, false, false, false, false]).contains 3 = true)
    (f4 : Region.free .any #[o0, o1, o2, o3, o4, o5, o6, o7, o8, o9, o10, o11, o12, o13] #[true, true, true, true, false, false, false, false, false, false, false, false, false, false] 4 = true) (r4 : (Region.ready .any #[o0, o1, o2, o3, o4, o5, o6, o7, o8, o9, o10, o11, o12, o13] #[true, true, true, true, false, false, false, false, false, false, false, false, false, false]).contains 4 = true)
    (f5 : Region.free .any #[o0, o1, o2, o3, o4, o5, o6, o7, o8, o9, o10, o11, o12, o13] #[true, true, true, true, true, false, false, false, false, false, false, false, false, false] 5 = true) (r5 : (Region.ready .any #[o0, o1, o2, o3, o4, o5, o6, o7, o8, o9, o10, o11, o12, o13] #[true, true, true, true, true, false, false, false, false, false, false, false, false, false]).contains 5 = true)
    (f6 : Region.free .any #[o0, o1, o2, o3, o4, o5, o6, o7, o8, o9, o10, o11, o12, o13] #[true, true, true, true, true, true, false, false, false, false, false, false, false, false] 6 = true) (r6 : (Region.ready .any #[o0, o1, o2, o3, o4, o5, o6, o7, o8, o9, o10, o11, o12, o13] #[true, true, true, true, true, true, false, false, false, false, false, false, false, false]).contains 6 = true)
    (f7 : Region.free .any #[o0, o1, o2, o3, o4, o5, o6, o7, o8, o9, o10, o11, o12, o13] #[true, true, true, true, true, true, true, false, false, false, false, false, false, false] 7 = true) (r7 : (Region.ready .any #[o0, o1, o2, o3, o4, o5, o6, o7, o8, o9, o10, o11, o12, o13] #[true, true, true, true, true, true, true, false, false, false, false, false, false, false]).contains 7 = true)
    (f8 : Region.free .any #[o0, o1, o2, o3, o4, o5, o6, o7, o8, o9, o10, o11, o12, o13] #[true, true, true, true, true, true, true, true, false, false, false, false, false, false] 8 = true) (r8 : (Region.ready .any #[o0, o1, o2, o3, o4, o5, o6, o7, o8, o9, o10, o11, o12, o13] #[true, true, true, true, true, true, true, true, false, false, false, false, false, false]).contains 8 = true)
    (f9 : Region.free .any #[o0, o1, o2, o3, o4, o5, o6, o7, o8, o9, o10, o11, o12, o13] #[true, true, true, true, true, true, true, true, true, false, false, false, false, false] 9 = true) (r9 : (Region.ready .any #[o0, o1, o2, o3, o4, o5, o6, o7, o8, o9, o10, o11, o12, o13] #[true, true, true, true, true, true, true, true, true, false, false, false, false, false]).contains 9 = true)
    (f11 : Region.free .any #[o0, o1, o2, o3, o4, o5, o6, o7, o8, o9, o10, o11, o12, o13] #[true, true, true, true, true, true, true, true, true, true, false, false, false, false] 11 = true) (r11 : (Region.ready .any #[o0, o1, o2, o3, o4, o5, o6, o7, o8, o9, o10, o11, o12, o13] #[true, true, true, true, true, true, true, true, true, true, false, false, false, false]).contains 11 = true)
    (r10 : Region.ready .any #[o0, o1, o2, o3, o4, o5, o6, o7, o8, o9, o10, o11, o12, o13] #[true, true, true, true, true, true, true, true, true, true, false, true, false, false] = [10])
    (r12 : Region.ready .any #[o0, o1, o2, o3, o4, o5, o6, o7, o8, o9, o10, o11, o12, o13] #[true, true, true, true, true, true, true, true, true, true, true, true, false, false] = [12])
    (f13 : Region.free .any #[o0, o1, o2, o3, o4, o5, o6, o7, o8, o9, o10, o11, o12, o13] #[true, true, true, true, true, true, true, true, true, true, true, true, true, false] 13 = true) (r13 : (Region.ready .any #[o0, o1, o2, o3, o4, o5, o6, o7, o8, o9, o10, o11, o12, o13] #[true, true, true, true, true, true, true, true, true, true, true, true, true, false]).contains 13 = true)
    (rr : Region.ready .any #[o0, o1, o2, o3, o4, o5, o6, o7, o8, o9, o10, o11, o12, o13] #[true, true, true, true, true, true, true, true, true, true, true, true, true, true] = [])
    (g1 : o10.guard = none) (g2 : o12.guard = none) (hS : S w.drew) (v0 v1 v2 v3 v4 v5 v6 v7 v8 v9 v10 : Value) (A0 A1 A2 A3 A4 A5 A6 A7 A8 A9 A10 : Act)
    (p0 : a.put o0.dst v0 = A0) (p1 : A0.put o1.dst v1 = A1) (p2 : A1.put o2.dst v2 = A2) (p3 : A2.put o3.dst v3 = A3) (p4 : A3.put o4.dst v4 = A4) (p5 : A4.put o5.dst v5 = A5) (p6 : A5.put o6.dst v6 = A6) (p7 : A6.put o7.dst v7 = A7) (p8 : A7.put o8.dst v8 = A8) (p9 : A8.put o9.dst v9 = A9) (p10 : A9.put o11.dst v10 = A10) 
    (hy0 : YieldsIf P #[o0, o1, o2, o3, o4, o5, o6, o7, o8, o9, o10, o11, o12, o13] S o0 v0 a) (hy1 : YieldsIf P #[o0, o1, o2, o3, o4, o5, o6, o7, o8, o9, o10, o11, o12, o13] S o1 v1 A0) (hy2 : YieldsIf P #[o0, o1, o2, o3, o4, o5, o6, o7, o8, o9, o10, o11, o12, o13] S o2 v2 A1) (hy3 : YieldsIf P #[o0, o1, o2, o3, o4, o5, o6, o7, o8, o9, o10, o11, o12, o13] S o3 v3 A2) (hy4 : YieldsIf P #[o0, o1, o2, o3, o4, o5, o6, o7, o8, o9, o10, o11, o12, o13] S o4 v4 A3) (hy5 : YieldsIf P #[o0, o1, o2, o3, o4, o5, o6, o7, o8, o9, o10, o11, o12, o13] S o5 v5 A4) (hy6 : YieldsIf P #[o0, o1, o2, o3, o4, o5, o6, o7, o8, o9, o10, o11, o12, o13] S o6 v6 A5) (hy7 : YieldsIf P #[o0, o1, o2, o3, o4, o5, o6, o7, o8, o9, o10, o11, o12, o13] S o7 v7 A6) (hy8 : YieldsIf P #[o0, o1, o2, o3, o4, o5, o6, o7, o8, o9, o10, o11, o12, o13] S o8 v8 A7) (hy9 : YieldsIf P #[o0, o1, o2, o3, o4, o5, o6, o7, o8, o9, o10, o11, o12, o13] S o9 v9 A8) (hy10 : YieldsIf P #[o0, o1, o2, o3, o4, o5, o6, o7, o8, o9, o10, o11, o12, o13] S o11 v10 A9) 
    (R1 : Value → World → Prop) (k1 : ∀ K : Act → World → Prop, (∀ u w1, R1 u w1 → K (A10.put o10.dst u) w1) → o10.wp P A10 w.drew K (NoPanic Q)) (S1 : ∀ u w1, R1 u w1 → S w1)
    (R2 : Value → World → Value → World → Prop) (k2 : ∀ u w1, R1 u w1 → ∀ K : Act → World → Prop, (∀ v w2, R2 u w1 v w2 → K ((A10.put o10.dst u).put o12.dst v) w2) → o12.wp P (A10.put o10.dst u) w1 K (NoPanic Q)) (S2 : ∀ u w1 v w2, R1 u w1 → R2 u w1 v w2 → S w2)
    (hyl : ∀ u w1 v w2, R1 u w1 → R2 u w1 v w2 → YieldsIf P #[o0, o1, o2, o3, o4, o5, o6, o7, o8, o9, o10, o11, o12, o13] S o13 v ((A10.put o10.dst u).put o12.dst v))
    (h : ∀ u w1 v w2, R1 u w1 → R2 u w1 v w2 → Q .normal (((A10.put o10.dst u).put o12.dst v).put o13.dst v) w2) :
    (Code.region id #[o0, o1, o2, o3, o4, o5, o6, o7, o8, o9, o10, o11, o12, o13] true).wp P Q a w := by
  subst p0 p1 p2 p3 p4 p5 p6 p7 p8 p9 p10
  refine wp_region_noPanic ?_
  refine wp_region_held_drew (S := S) hm hS (fun hH => ?_)
  show wpAnyH P .any #[o0, o1, o2, o3, o4, o5, o6, o7, o8, o9, o10, o11, o12, o13] (NoPanic Q) S 14 #[false, false, false, false, false, false, false, false, false, false, false, false, false, false] a w.drew
  refine wpAnyH_take (i := 0) (oi := o0) rfl hs f0 r0 (fun _ _ _ h => h) hy0 hS ?_
  refine wpAnyH_take (i := 1) (oi := o1) rfl hs f1 r1 (fun _ _ _ h => h) hy1 hS ?_
  refine wpAnyH_take (i := 2) (oi := o2) rfl hs f2 r2 (fun _ _ _ h => h) hy2 hS ?_
  refine wpAnyH_take (i := 3) (oi := o3) rfl hs f3 r3 (fun _ _ _ h => h) hy3 hS ?_
  refine wpAnyH_take (i := 4) (oi := o4) rfl hs f4 r4 (fun _ _ _ h => h) hy4 hS ?_
  refine wpAnyH_take (i := 5) (oi := o5) rfl hs f5 r5 (fun _ _ _ h => h) hy5 hS ?_
  refine wpAnyH_take (i := 6) (oi := o6) rfl hs f6 r6 (fun _ _ _ h => h) hy6 hS ?_
  refine wpAnyH_take (i := 7) (oi := o7) rfl hs f7 r7 (fun _ _ _ h => h) hy7 hS ?_
  refine wpAnyH_take (i := 8) (oi := o8) rfl hs f8 r8 (fun _ _ _ h => h) hy8 hS ?_
  refine wpAnyH_take (i := 9) (oi := o9) rfl hs f9 r9 (fun _ _ _ h => h) hy9 hS ?_
  refine wpAnyH_take (i := 11) (oi := o11) rfl hs f11 r11 (fun _ _ _ h => h) hy10 hS ?_
  refine wpAnyH_ready (rs := [10]) r10 (by simp) (AllReadyH.cons (o := o10) rfl (fun K hK => ?_) AllReadyH.nil)
  have wa : ∀ y, Region.wanted o10 y = true := fun y => by unfold Region.wanted; rw [g1]
  rw [if_pos (wa _)]
  refine k1 K (fun u w1 h1 => hK.out _ _ (S1 u w1 h1) (fun _ => ?_))
  refine wpAnyH_ready (rs := [12]) r12 (by simp) (AllReadyH.cons (o := o12) rfl (fun K hK => ?_) AllReadyH.nil)
  have wb : ∀ y, Region.wanted o12 y = true := fun y => by unfold Region.wanted; rw [g2]
  rw [if_pos (wb _)]
  refine k2 u w1 h1 K (fun v w2 h2 => hK.out _ _ (S2 u w1 v w2 h1 h2) (fun _ => ?_))
  refine wpAnyH_take (i := 13) (oi := o13) rfl hs f13 r13 (fun _ _ _ h => h) (hyl u w1 v w2 h1 h2) (S2 u w1 v w2 h1 h2) ?_
  exact ⟨rr, NoPanic.normal (h u w1 v w2 h1 h2)⟩
end

theorem wp_twinD {o : Oper} {a : Act} {w : World} {K : Act → World → Prop} {Q : Exit → Act → World → Prop} (x : Operand) (ts : Array TypeId) (ho : o.op = .call { callee := .value (.func 10), args := #[x], argTypes := ts }) (v : Value) (ds : List (List Nat)) (hx : a.eval x = v) (hv : RdD w v ds) (hl : ds.length ≤ 1048576)
    (h : ∀ u w1, RdD w1 u ds ∧ Kept [] w w1 → K (a.put o.dst u) w1) : o.wp Tryd.prog a w K Q := by
  unfold Oper.wp execOp
  simp only [ho]
  have hf : a.eval (.func 10) = .func (.func 10) #[] #[] := rfl
  have hcl : ∀ args W, (callFunc 10 args).run Tryd.prog W = .ok (.enter 10 args) W := fun args W => Tryd.call10 args W
  simp only [resolve, invoke, hf, hx, Sem.run_bind, Sem.run_pure, Result.andThen_ok, List.map_toArray, List.map_cons, List.map_nil, hcl]
  simp [Deferred.ofValue, hcl, go_sem]
  refine (twinD_any v ds w hv hl).mono ?_
  rintro e w2 ⟨u, rfl, d2, k2, _⟩
  exact h u w2 ⟨d2, k2⟩

theorem wp_incl {o : Oper} {a : Act} {w : World} {K : Act → World → Prop} {Q : Exit → Act → World → Prop} (x0 x1 x2 x3 x4 x5 : Operand) (ts : Array TypeId) (ho : o.op = .call { callee := .value (.func 13), args := #[x0, x1, x2, x3, x4, x5], argTypes := ts }) (z : Int) (l : List Nat) (i n : Nat) (u : Value) (p : List (List Nat)) (r : List Nat)
    (e0 : a.eval x0 = .int .i64 z) (e1 : a.eval x1 = .agg (l.map u8).toArray) (e2 : a.eval x2 = .int .u64 (i : Int)) (e3 : a.eval x3 = .int .u64 (n : Int)) (e4 : a.eval x4 = u) (e5 : a.eval x5 = .agg (r.map u8).toArray)
    (hz : -9223372036854775808 ≤ z ∧ z ≤ 9223372036854775807) (hl : Dg l) (hr : Dg r) (hi : i < 18446744073709551616) (hn : n < 18446744073709551616) (hp : RdD w u p) (hT : Tabs w)
    (h : ∀ v w1, v = .int .i64 (incE z l i n p r) ∧ Kept [] w w1 → K (a.put o.dst v) w1) : o.wp Tryd.prog a w K Q := by
  unfold Oper.wp execOp
  simp only [ho]
  have hf : a.eval (.func 13) = .func (.func 13) #[] #[] := rfl
  have hcl : ∀ args W, (callFunc 13 args).run Tryd.prog W = .ok (.enter 13 args) W := fun args W => Tryd.call13 args W
  simp only [resolve, invoke, hf, e0, e1, e2, e3, e4, e5, Sem.run_bind, Sem.run_pure, Result.andThen_ok, List.map_toArray, List.map_cons, List.map_nil, hcl]
  simp [Deferred.ofValue, hcl, go_sem]
  refine (inclusion_any z l i n u p r w hz hl hr hi hn hp hT).mono ?_
  rintro e w2 ⟨rfl, k2⟩
  exact h _ w2 ⟨rfl, k2⟩
end Go.Proofs.YthafpaenggcpdaaDoor
namespace Go.Proofs.YthafpaenggcpdaaDoor
open Go.RowKit Go.BigFrame
set_option linter.unusedVariables false
set_option linter.unusedSimpArgs false

theorem nil_of_len {p : List (List Nat)} : p = [] ↔ p.length = 0 := by cases p <;> simp

set_option maxRecDepth 100000 in
set_option maxHeartbeats 8000000 in
theorem consistency_any (z : Int) (m n : Nat) (leaf root : List Nat) (pv : Value) (p : List (List Nat)) (w : World) (hz : -9223372036854775808 ≤ z ∧ z ≤ 9223372036854775807) (hl : Dg leaf) (hr : Dg root) (hi : m < 18446744073709551616) (hn : n < 18446744073709551616) (hp : RdD w pv p) (hT : Tabs w) :
    Calls Tryd.prog 17 #[.int .i64 z, .int .u64 m, .int .u64 n, .agg (brow leaf), .agg (brow root), pv] w fun e w' => e = .returned (.int .i64 (conE z m n leaf root p)) ∧ Kept [] w w' := by
  have HP := hide hp
  obtain ⟨ao, len, cap, rfl, h1, h2, h3, h4, h5⟩ := hp
  clear h4 h5
  subst h1
  have HT := hide hT
  have HL := hide hl
  have HR := hide hr
  have hll := hl.1
  have hrl := hr.1
  have hlb := hl.2
  have hrb := hr.2
  clear hT
  obtain ⟨E, hE⟩ : ∃ E, conE z m n leaf root p = E := ⟨_, rfl⟩
  have HE := hide hE
  rw [hE]
  clear hE
  go_enter Tryd.func17, Tryd.ntmps17
  have HGL := hide (((Kept.refl [] (w.alloc (.cells (brow leaf) 23))).alloc (.cells (brow root) 23)).heap (heap_alloc_new w (.cells (brow leaf) 23)) (by simp))
  have HGR := hide (alloc_at w (.cells (brow leaf) 23) (.cells (brow root) 23))
  have HK0 := hide (((Kept.refl [] w).alloc (.cells (brow leaf) 23)).alloc (.cells (brow root) 23))
  have HSL := hide (by rw [List.length_map, hll]; exact Tryd.size_dig : (Tryd.prog.info? 23).map (·.size) = some (leaf.map u8).length)
  have HSM := hide (by rw [List.length_map, hrl]; exact Tryd.size_dig : (Tryd.prog.info? 23).map (·.size) = some (root.map u8).length)
  have hfs : ∀ A : Array Value, (List.foldl (fun cs x => cs.setIfInBounds x.snd x.fst) A (List.map u8 leaf).zipIdx).size = A.size := fun A => fold_size _ A 0
  go_wp2_with (first
    | (refine wpList_load_mid rfl 23 _ rfl w.heap.size 0 rfl (leaf.map u8) _ (range_row (unhide HGL)) Tryd.underlying23 rfl (unhide HSL) ?_)
    | (refine wpList_load_mid rfl 23 _ rfl (w.heap.size + 1) 0 rfl (root.map u8) _ (range_row (unhide HGR)) Tryd.underlying23 rfl (unhide HSM) ?_))
  rw [zb64, two_digs leaf root hll hrl]
  clear hfs
  have k0 := (Kept.refl [] ((w.alloc (.cells (brow leaf) 23)).alloc (.cells (brow root) 23))).alloc (.cells (leaf.map u8 ++ root.map u8).toArray 23)
  refine Calls.mono (mformed_any z _ _ p [leaf, root] _ hz ((unhide HP).old ((unhide HK0).trans k0 (by simp))) (RdD.two (alloc3_at _ _ _ _) hll hrl hlb hrb)) ?_
  rintro e w1 ⟨rfl, k1⟩
  have k01 := k0.trans k1 (by simp)
  have HK1 := hide ((unhide HK0).trans k01 (by simp))
  have HL1 := hide (k01.heap (unhide HGL) (by simp))
  have HR1 := hide (k01.heap (unhide HGR) (by simp))
  clear k0 k1 k01 HGL HGR
  obtain ⟨f, hf⟩ : ∃ f, formedE z ([leaf, root] ++ p) = f := ⟨_, rfl⟩
  have HF := hide (show formedE z (leaf :: root :: p) = f from hf)
  rw [hf]
  clear hf
  by_cases hf0 : f = 0
  · subst hf0
    obtain ⟨hw, hff⟩ := formedE_zero (unhide HF)
    have HWW := hide hw
    clear hff
    have HE0 := hide (by rw [← unhide HE]; unfold conE; rw [if_neg (by rw [unhide HF]; simp)] : E = if n < m then 4 else if m = n then (if p = [] ∧ leaf = root then 0 else 10) else if m = 0 then (if p = [] ∧ leaf = sumD z [] then 0 else 10) else if rootsE z leaf m n p ≠ 0 then rootsE z leaf m n p else if (rootsD z leaf m n p).1 = leaf ∧ (rootsD z leaf m n p).2 = root then 0 else 10)
    by_cases hgt : n < m
    · have hgt' : (n : Int) < m := by omega
      have HC := hide (by rw [unhide HE0, if_pos hgt] : E = 4)
      go_wp2
      go_ret
      exact ⟨by rw [unhide HC]; rfl, unhide HK1⟩
    · have hgt' : ¬ (n : Int) < m := by omega
      by_cases hmn : m = n
      · have hmn' : ((m : Int) == n) = true := by simp; omega
        have hqd : ∀ W, (Op.equalIn 10000 23 (.agg (leaf.map u8).toArray) (.agg (root.map u8).toArray)).run Tryd.prog W = .ok (decide (leaf = root)) W := fun W => dig_eq W leaf root hll hrl
        by_cases hp0 : p.length = 0
        · have hp0' : ((p.length : Int) == 0) = true := by rw [beq_iff_eq]; omega
          have HC := hide (by rw [unhide HE0, if_neg hgt, if_pos hmn]; by_cases h9 : leaf = root; rw [if_pos ⟨nil_of_len.2 hp0, h9⟩]; simp [prE, h9]; rw [if_neg (fun h => h9 h.2)]; simp [prE, h9] : E = prE (decide (leaf = root)))
          go_wp2_with (first
            | (refine wpList_load_midG rfl 23 _ rfl w.heap.size 0 rfl (leaf.map u8) _ (range_row (unhide HL1)) Tryd.underlying23 rfl (unhide HSL) ?_)
            | (refine wpList_load_midG rfl 23 _ rfl (w.heap.size + 1) 0 rfl (root.map u8) _ (range_row (unhide HR1)) Tryd.underlying23 rfl (unhide HSM) ?_))
          refine Calls.mono (proven_any (decide (leaf = root)) _) ?_
          rintro e w9 ⟨rfl, rfl⟩
          generalize hB9 : prE (decide (leaf = root)) = B9
          rw [hB9] at HC
          clear hB9
          go_wp2
          go_ret
          exact ⟨by rw [unhide HC]; rfl, unhide HK1⟩
        · have hp0' : ((p.length : Int) == 0) = false := by rw [beq_eq_false_iff_ne]; omega
          have HC := hide (by rw [unhide HE0, if_neg hgt, if_pos hmn, if_neg (fun h => hp0 (nil_of_len.1 h.1))]; rfl : E = prE false)
          go_wp2_with fail
          refine Calls.mono (proven_any false _) ?_
          rintro e w9 ⟨rfl, rfl⟩
          generalize hB9 : prE false = B9
          rw [hB9] at HC
          clear hB9
          go_wp2
          go_ret
          exact ⟨by rw [unhide HC]; rfl, unhide HK1⟩
      · have hmn' : ((m : Int) == n) = false := by simp; omega
        by_cases hm0 : m = 0
        · have hm0' : ((m : Int) == 0) = true := by simp; omega
          have hwd : 1 ≤ z ∧ z ≤ 32 := by simpa [widthB] using hw
          go_wp2_with fail
          refine Calls.mono (nolog_any z _ hz hw ((unhide HT).k (unhide HK1))) ?_
          rintro e w2 ⟨rfl, k2⟩
          have HNL := hide (by unfold sumD; rw [if_pos hw] : sumD z [] = cutL z.toNat (hash []))
          have hnl := cutL_len z.toNat (hash []) (by omega) (hash_len [])
          obtain ⟨D, hD⟩ : ∃ D, cutL z.toNat (hash []) = D := ⟨_, rfl⟩
          rw [hD] at HNL hnl ⊢
          clear hD
          have HSD := hide (by rw [List.length_map, hnl]; exact Tryd.size_dig : (Tryd.prog.info? 23).map (·.size) = some (D.map u8).length)
          have kN := ((Kept.refl [] w2).alloc (.cells (zb 32) 23)).setRow (g := w2.heap.size) (Or.inr (Nat.le_refl _)) (brow D)
          have HN3 := hide (range_row (setRow_heap (w2.alloc (.cells (zb 32) 23)) w2.heap.size (zb 32) (brow D) 23 (0, 0) (heap_alloc_new _ _)))
          have kk := k2.trans kN (by simp)
          have HL3 := hide (range_row (kk.heap (unhide HL1) (by simp)))
          have HK3 := hide ((unhide HK1).trans kk (by simp))
          clear k2 kN kk
          have hqd : ∀ W, (Op.equalIn 10000 23 (.agg (leaf.map u8).toArray) (.agg (D.map u8).toArray)).run Tryd.prog W = .ok (decide (leaf = D)) W := fun W => dig_eq W leaf D hll hnl
          by_cases hp0 : p.length = 0
          · have hp0' : ((p.length : Int) == 0) = true := by rw [beq_iff_eq]; omega
            have HC := hide (by rw [unhide HE0, if_neg hgt, if_neg hmn, if_pos hm0, unhide HNL]; by_cases h9 : leaf = D; rw [if_pos ⟨nil_of_len.2 hp0, h9⟩]; simp [prE, h9]; rw [if_neg (fun h => h9 h.2)]; simp [prE, h9] : E = prE (decide (leaf = D)))
            go_wp2_with (first
              | (rw [zb32]; refine wpList_store_row rfl 23 _ _ rfl w2.heap.size (brow D) rfl rfl _ (zb 32) (heap_alloc_new _ _) (by rw [brow_size, hnl]; exact Tryd.size_dig) (by rw [zb_size, brow_size, hnl]) (brow_one _) ?_)
              | (refine wpList_load_midG rfl 23 _ rfl w.heap.size 0 rfl (leaf.map u8) _ (unhide HL3) Tryd.underlying23 rfl (unhide HSL) ?_)
              | (refine wpList_load_midG rfl 23 _ rfl w2.heap.size 0 rfl (D.map u8) _ (unhide HN3) Tryd.underlying23 rfl (unhide HSD) ?_))
            refine Calls.mono (proven_any (decide (leaf = D)) _) ?_
            rintro e w9 ⟨rfl, rfl⟩
            generalize hB9 : prE (decide (leaf = D)) = B9
            rw [hB9] at HC
            clear hB9
            go_wp2
            go_ret
            exact ⟨by rw [unhide HC]; rfl, unhide HK3⟩
          · have hp0' : ((p.length : Int) == 0) = false := by rw [beq_eq_false_iff_ne]; omega
            have HC := hide (by rw [unhide HE0, if_neg hgt, if_neg hmn, if_pos hm0, if_neg (fun h => hp0 (nil_of_len.1 h.1))]; rfl : E = prE false)
            go_wp2_with (rw [zb32]; refine wpList_store_row rfl 23 _ _ rfl w2.heap.size (brow D) rfl rfl _ (zb 32) (heap_alloc_new _ _) (by rw [brow_size, hnl]; exact Tryd.size_dig) (by rw [zb_size, brow_size, hnl]) (brow_one _) ?_)
            refine Calls.mono (proven_any false _) ?_
            rintro e w9 ⟨rfl, rfl⟩
            generalize hB9 : prE false = B9
            rw [hB9] at HC
            clear hB9
            go_wp2
            go_ret
            exact ⟨by rw [unhide HC]; rfl, unhide HK3⟩
        · have hm0' : ((m : Int) == 0) = false := by simp; omega
          have hdg := rootsD_dg (z := z) (m := m) (n := n) (unhide HL) (fun d hd => (unhide HP).dg hd)
          go_wp2_with (refine wpList_load_mid rfl 23 _ rfl w.heap.size 0 rfl (leaf.map u8) _ (range_row (unhide HL1)) Tryd.underlying23 rfl (unhide HSL) ?_)
          refine Calls.mono (rootsOf_any z m n leaf _ p _ hz (unhide HL) hi hn ((unhide HP).old (unhide HK1)) ((unhide HT).k (unhide HK1))) ?_
          rintro e w2 ⟨rfl, k2⟩
          obtain ⟨G, hG⟩ : ∃ G, rootsE z leaf m n p = G := ⟨_, rfl⟩
          obtain ⟨D, hD⟩ : ∃ D, rootsD z leaf m n p = D := ⟨_, rfl⟩
          rw [hD] at hdg
          have HE1 := hide (by rw [unhide HE0, if_neg hgt, if_neg hmn, if_neg hm0, hG, hD] : E = if G ≠ 0 then G else if D.1 = leaf ∧ D.2 = root then 0 else 10)
          rw [hG, hD]
          clear hG hD
          obtain ⟨D1, D2⟩ := D
          have hl4 := hdg.1.1
          have hl5 := hdg.2.1
          simp only at hl4 hl5 HE1 ⊢
          have HS4 := hide (by rw [List.length_map, hl4]; exact Tryd.size_dig : (Tryd.prog.info? 23).map (·.size) = some (D1.map u8).length)
          have HS5 := hide (by rw [List.length_map, hl5]; exact Tryd.size_dig : (Tryd.prog.info? 23).map (·.size) = some (D2.map u8).length)
          have HA0 := hide (((Kept.refl [] (w2.alloc (.cells (zb 32) 23))).alloc (.cells (zb 32) 23)).heap (heap_alloc_new w2 (.cells (zb 32) 23)) (by simp))
          have HB0 := hide ((setRow_other ((w2.alloc (.cells (zb 32) 23)).alloc (.cells (zb 32) 23)) w2.heap.size (w2.heap.size + 1) (brow D1) (by omega)).trans (alloc_at w2 (.cells (zb 32) 23) (.cells (zb 32) 23)))
          have kab := ((((Kept.refl [] w2).alloc (.cells (zb 32) 23)).alloc (.cells (zb 32) 23)).setRow (g := w2.heap.size) (Or.inr (Nat.le_refl _)) (brow D1)).setRow (g := w2.heap.size + 1) (Or.inr (by omega)) (brow D2)
          have HA1 := hide (range_row ((setRow_other (((w2.alloc (.cells (zb 32) 23)).alloc (.cells (zb 32) 23)).setRow w2.heap.size (brow D1)) (w2.heap.size + 1) w2.heap.size (brow D2) (by omega)).trans (setRow_heap _ _ _ (brow D1) _ _ (unhide HA0))))
          have HB1 := hide (range_row (setRow_heap (((w2.alloc (.cells (zb 32) 23)).alloc (.cells (zb 32) 23)).setRow w2.heap.size (brow D1)) _ _ (brow D2) _ _ (unhide HB0)))
          have kk := k2.trans kab (by simp)
          have HL3 := hide (range_row (kk.heap (unhide HL1) (by simp)))
          have HR3 := hide (range_row (kk.heap (unhide HR1) (by simp)))
          have HK3 := hide ((unhide HK1).trans kk (by simp))
          clear k2 kab kk hdg
          by_cases hG0 : G = 0
          · subst hG0
            have hqa : ∀ W, (Op.equalIn 10000 23 (.agg (D1.map u8).toArray) (.agg (leaf.map u8).toArray)).run Tryd.prog W = .ok (decide (D1 = leaf)) W := fun W => dig_eq W D1 leaf hl4 hll
            have hqb : ∀ W, (Op.equalIn 10000 23 (.agg (D2.map u8).toArray) (.agg (root.map u8).toArray)).run Tryd.prog W = .ok (decide (D2 = root)) W := fun W => dig_eq W D2 root hl5 hrl
            by_cases h1a : D1 = leaf
            · rw [decide_eq_true h1a] at hqa
              have HC := hide (by rw [unhide HE1, if_neg (by simp)]; by_cases h9 : D2 = root; rw [if_pos ⟨h1a, h9⟩]; simp [prE, h9]; rw [if_neg (fun h => h9 h.2)]; simp [prE, h9] : E = prE (decide (D2 = root)))
              clear h1a
              go_wp2_with (first
                | (rw [zb32]; refine wpList_store_row rfl 23 _ _ rfl w2.heap.size (brow D1) rfl rfl _ (zb 32) (unhide HA0) (by rw [brow_size, hl4]; exact Tryd.size_dig) (by rw [zb_size, brow_size, hl4]) (brow_one _) ?_; clear HA0)
                | (refine wpList_store_row rfl 23 _ _ rfl (w2.heap.size + 1) (brow D2) rfl rfl _ (zb 32) (unhide HB0) (by rw [brow_size, hl5]; exact Tryd.size_dig) (by rw [zb_size, brow_size, hl5]) (brow_one _) ?_; clear HB0)
                | (refine wpList_load_midG rfl 23 _ rfl w2.heap.size 0 rfl (D1.map u8) _ (unhide HA1) Tryd.underlying23 rfl (unhide HS4) ?_)
                | (refine wpList_load_midG rfl 23 _ rfl (w2.heap.size + 1) 0 rfl (D2.map u8) _ (unhide HB1) Tryd.underlying23 rfl (unhide HS5) ?_)
                | (refine wpList_load_midG rfl 23 _ rfl w.heap.size 0 rfl (leaf.map u8) _ (unhide HL3) Tryd.underlying23 rfl (unhide HSL) ?_)
                | (refine wpList_load_midG rfl 23 _ rfl (w.heap.size + 1) 0 rfl (root.map u8) _ (unhide HR3) Tryd.underlying23 rfl (unhide HSM) ?_))
              refine Calls.mono (proven_any (decide (D2 = root)) _) ?_
              rintro e w9 ⟨rfl, rfl⟩
              generalize hB9 : prE (decide (D2 = root)) = B9
              rw [hB9] at HC
              clear hB9
              go_wp2
              go_ret
              exact ⟨by rw [unhide HC]; rfl, unhide HK3⟩
            · rw [decide_eq_false h1a] at hqa
              have HC := hide (by rw [unhide HE1, if_neg (by simp), if_neg (fun h => h1a h.1)]; rfl : E = prE false)
              clear h1a
              go_wp2_with (first
                | (rw [zb32]; refine wpList_store_row rfl 23 _ _ rfl w2.heap.size (brow D1) rfl rfl _ (zb 32) (unhide HA0) (by rw [brow_size, hl4]; exact Tryd.size_dig) (by rw [zb_size, brow_size, hl4]) (brow_one _) ?_; clear HA0)
                | (refine wpList_store_row rfl 23 _ _ rfl (w2.heap.size + 1) (brow D2) rfl rfl _ (zb 32) (unhide HB0) (by rw [brow_size, hl5]; exact Tryd.size_dig) (by rw [zb_size, brow_size, hl5]) (brow_one _) ?_; clear HB0)
                | (refine wpList_load_midG rfl 23 _ rfl w2.heap.size 0 rfl (D1.map u8) _ (unhide HA1) Tryd.underlying23 rfl (unhide HS4) ?_)
                | (refine wpList_load_midG rfl 23 _ rfl w.heap.size 0 rfl (leaf.map u8) _ (unhide HL3) Tryd.underlying23 rfl (unhide HSL) ?_))
              refine Calls.mono (proven_any false _) ?_
              rintro e w9 ⟨rfl, rfl⟩
              generalize hB9 : prE false = B9
              rw [hB9] at HC
              clear hB9
              go_wp2
              go_ret
              exact ⟨by rw [unhide HC]; rfl, unhide HK3⟩
          · have hb : ((G : Int) != 0) = true := by simp; omega
            have HC := hide (by rw [unhide HE1, if_pos hG0] : E = G)
            go_wp2_with (first
              | (rw [zb32]; refine wpList_store_row rfl 23 _ _ rfl w2.heap.size (brow D1) rfl rfl _ (zb 32) (unhide HA0) (by rw [brow_size, hl4]; exact Tryd.size_dig) (by rw [zb_size, brow_size, hl4]) (brow_one _) ?_; clear HA0)
              | (refine wpList_store_row rfl 23 _ _ rfl (w2.heap.size + 1) (brow D2) rfl rfl _ (zb 32) (unhide HB0) (by rw [brow_size, hl5]; exact Tryd.size_dig) (by rw [zb_size, brow_size, hl5]) (brow_one _) ?_; clear HB0))
            go_ret
            exact ⟨by rw [unhide HC]; rfl, unhide HK3⟩
  · have hb : ((f : Int) != 0) = true := by simp; omega
    have HC := hide (by rw [← unhide HE, ← unhide HF]; unfold conE; rw [if_pos (by rw [unhide HF]; exact hf0)] : E = f)
    go_wp2
    go_ret
    exact ⟨by rw [unhide HC]; rfl, unhide HK1⟩
end Go.Proofs.YthafpaenggcpdaaDoor
