import Derived.Test.YtbljofojeagdkaaDoorMAw
namespace Go.Proofs.YtbljofojeagdkaaDoor
open Go.RowKit Go.BigFrame
set_option linter.unusedVariables false
set_option linter.unusedSimpArgs false

theorem nil_of_len {p : List (List Nat)} : p = [] ↔ p.length = 0 := by cases p <;> simp

set_option maxRecDepth 100000 in
set_option maxHeartbeats 8000000 in
theorem consistency_any (z : Int) (m n : Nat) (leaf root : List Nat) (pv : Value) (p : List (List Nat)) (w : World) (hz : -9223372036854775808 ≤ z ∧ z ≤ 9223372036854775807) (hl : Dg leaf) (hr : Dg root) (hi : m < 18446744073709551616) (hn : n < 18446744073709551616) (hp : RdD w pv p) (hT : Tabs w) :
    Calls Tryd.prog 13 #[.int .i64 z, .int .u64 m, .int .u64 n, .agg (brow leaf), .agg (brow root), pv] w fun e w' => e = .returned (.int .i64 (conE z m n leaf root p)) ∧ Kept [] w w' := by
  have HP := hide hp
  obtain ⟨ao, len, cap, rfl, h1, h2, h3, h4, h5⟩ := hp
  clear h4 h5
  subst h1
  have HT := hide hT
  have HL := hide hl
  have HR := hide hr
  have hll := hl.1
  have hrl := hr.1
  have hlb := hl.2
  have hrb := hr.2
  clear hT
  obtain ⟨E, hE⟩ : ∃ E, conE z m n leaf root p = E := ⟨_, rfl⟩
  have HE := hide hE
  rw [hE]
  clear hE
  go_enter Tryd.func13, Tryd.ntmps13
  have HGL := hide (((Kept.refl [] (w.alloc (.cells (brow leaf) 23))).alloc (.cells (brow root) 23)).heap (heap_alloc_new w (.cells (brow leaf) 23)) (by simp))
  have HGR := hide (alloc_at w (.cells (brow leaf) 23) (.cells (brow root) 23))
  have HK0 := hide (((Kept.refl [] w).alloc (.cells (brow leaf) 23)).alloc (.cells (brow root) 23))
  have HSL := hide (by rw [List.length_map, hll]; exact Tryd.size_dig : (Tryd.prog.info? 23).map (·.size) = some (leaf.map u8).length)
  have HSM := hide (by rw [List.length_map, hrl]; exact Tryd.size_dig : (Tryd.prog.info? 23).map (·.size) = some (root.map u8).length)
  have hfs : ∀ A : Array Value, (List.foldl (fun cs x => cs.setIfInBounds x.snd x.fst) A (List.map u8 leaf).zipIdx).size = A.size := fun A => fold_size _ A 0
  go_wp2_with (first
    | (refine wpList_load_mid rfl 23 _ rfl w.heap.size 0 rfl (leaf.map u8) _ (range_row (unhide HGL)) Tryd.underlying23 rfl (unhide HSL) ?_)
    | (refine wpList_load_mid rfl 23 _ rfl (w.heap.size + 1) 0 rfl (root.map u8) _ (range_row (unhide HGR)) Tryd.underlying23 rfl (unhide HSM) ?_))
  rw [zb64, two_digs leaf root hll hrl]
  clear hfs
  have k0 := (Kept.refl [] ((w.alloc (.cells (brow leaf) 23)).alloc (.cells (brow root) 23))).alloc (.cells (leaf.map u8 ++ root.map u8).toArray 23)
  refine Calls.mono (mformed_any z _ _ p [leaf, root] _ hz ((unhide HP).old ((unhide HK0).trans k0 (by simp))) (RdD.two (alloc3_at _ _ _ _) hll hrl hlb hrb)) ?_
  rintro e w1 ⟨rfl, k1⟩
  have k01 := k0.trans k1 (by simp)
  have HK1 := hide ((unhide HK0).trans k01 (by simp))
  have HL1 := hide (k01.heap (unhide HGL) (by simp))
  have HR1 := hide (k01.heap (unhide HGR) (by simp))
  clear k0 k1 k01 HGL HGR
  obtain ⟨f, hf⟩ : ∃ f, formedE z ([leaf, root] ++ p) = f := ⟨_, rfl⟩
  have HF := hide (show formedE z (leaf :: root :: p) = f from hf)
  rw [hf]
  clear hf
  by_cases hf0 : f = 0
  · subst hf0
    obtain ⟨hw, hff⟩ := formedE_zero (unhide HF)
    have HWW := hide hw
    clear hff
    have HE0 := hide (by rw [← unhide HE]; unfold conE; rw [if_neg (by rw [unhide HF]; simp)] : E = if n < m then 4 else if m = n then (if p = [] ∧ leaf = root then 0 else 10) else if m = 0 then (if p = [] ∧ leaf = sumD z [] then 0 else 10) else if rootsE z leaf m n p ≠ 0 then rootsE z leaf m n p else if (rootsD z leaf m n p).1 = leaf ∧ (rootsD z leaf m n p).2 = root then 0 else 10)
    by_cases hgt : n < m
    · have hgt' : (n : Int) < m := by omega
      have HC := hide (by rw [unhide HE0, if_pos hgt] : E = 4)
      go_wp2
      go_ret
      exact ⟨by rw [unhide HC]; rfl, unhide HK1⟩
    · have hgt' : ¬ (n : Int) < m := by omega
      by_cases hmn : m = n
      · have hmn' : ((m : Int) == n) = true := by simp; omega
        have hqd : ∀ W, (Op.equalIn 10000 23 (.agg (leaf.map u8).toArray) (.agg (root.map u8).toArray)).run Tryd.prog W = .ok (decide (leaf = root)) W := fun W => dig_eq W leaf root hll hrl
        by_cases hp0 : p.length = 0
        · have hp0' : ((p.length : Int) == 0) = true := by rw [beq_iff_eq]; omega
          have HC := hide (by rw [unhide HE0, if_neg hgt, if_pos hmn]; by_cases h9 : leaf = root; rw [if_pos ⟨nil_of_len.2 hp0, h9⟩]; simp [prE, h9]; rw [if_neg (fun h => h9 h.2)]; simp [prE, h9] : E = prE (decide (leaf = root)))
          go_wp2_with (first
            | (refine wpList_load_midG rfl 23 _ rfl w.heap.size 0 rfl (leaf.map u8) _ (range_row (unhide HL1)) Tryd.underlying23 rfl (unhide HSL) ?_)
            | (refine wpList_load_midG rfl 23 _ rfl (w.heap.size + 1) 0 rfl (root.map u8) _ (range_row (unhide HR1)) Tryd.underlying23 rfl (unhide HSM) ?_))
          refine Calls.mono (proven_any (decide (leaf = root)) _) ?_
          rintro e w9 ⟨rfl, rfl⟩
          generalize hB9 : prE (decide (leaf = root)) = B9
          rw [hB9] at HC
          clear hB9
          go_wp2
          go_ret
          exact ⟨by rw [unhide HC]; rfl, unhide HK1⟩
        · have hp0' : ((p.length : Int) == 0) = false := by rw [beq_eq_false_iff_ne]; omega
          have HC := hide (by rw [unhide HE0, if_neg hgt, if_pos hmn, if_neg (fun h => hp0 (nil_of_len.1 h.1))]; rfl : E = prE false)
          go_wp2_with fail
          refine Calls.mono (proven_any false _) ?_
          rintro e w9 ⟨rfl, rfl⟩
          generalize hB9 : prE false = B9
          rw [hB9] at HC
          clear hB9
          go_wp2
          go_ret
          exact ⟨by rw [unhide HC]; rfl, unhide HK1⟩
      · have hmn' : ((m : Int) == n) = false := by simp; omega
        by_cases hm0 : m = 0
        · have hm0' : ((m : Int) == 0) = true := by simp; omega
          have hwd : 1 ≤ z ∧ z ≤ 32 := by simpa [widthB] using hw
          go_wp2_with fail
          refine Calls.mono (nolog_any z _ hz hw ((unhide HT).k (unhide HK1))) ?_
          rintro e w2 ⟨rfl, k2⟩
          have HNL := hide (by unfold sumD; rw [if_pos hw] : sumD z [] = cutL z.toNat (hash []))
          have hnl := cutL_len z.toNat (hash []) (by omega) (hash_len [])
          obtain ⟨D, hD⟩ : ∃ D, cutL z.toNat (hash []) = D := ⟨_, rfl⟩
          rw [hD] at HNL hnl ⊢
          clear hD
          have HSD := hide (by rw [List.length_map, hnl]; exact Tryd.size_dig : (Tryd.prog.info? 23).map (·.size) = some (D.map u8).length)
          have kN := ((Kept.refl [] w2).alloc (.cells (zb 32) 23)).setRow (g := w2.heap.size) (Or.inr (Nat.le_refl _)) (brow D)
          have HN3 := hide (range_row (setRow_heap (w2.alloc (.cells (zb 32) 23)) w2.heap.size (zb 32) (brow D) 23 (0, 0) (heap_alloc_new _ _)))
          have kk := k2.trans kN (by simp)
          have HL3 := hide (range_row (kk.heap (unhide HL1) (by simp)))
          have HK3 := hide ((unhide HK1).trans kk (by simp))
          clear k2 kN kk
          have hqd : ∀ W, (Op.equalIn 10000 23 (.agg (leaf.map u8).toArray) (.agg (D.map u8).toArray)).run Tryd.prog W = .ok (decide (leaf = D)) W := fun W => dig_eq W leaf D hll hnl
          by_cases hp0 : p.length = 0
          · have hp0' : ((p.length : Int) == 0) = true := by rw [beq_iff_eq]; omega
            have HC := hide (by rw [unhide HE0, if_neg hgt, if_neg hmn, if_pos hm0, unhide HNL]; by_cases h9 : leaf = D; rw [if_pos ⟨nil_of_len.2 hp0, h9⟩]; simp [prE, h9]; rw [if_neg (fun h => h9 h.2)]; simp [prE, h9] : E = prE (decide (leaf = D)))
            go_wp2_with (first
              | (rw [zb32]; refine wpList_store_row rfl 23 _ _ rfl w2.heap.size (brow D) rfl rfl _ (zb 32) (heap_alloc_new _ _) (by rw [brow_size, hnl]; exact Tryd.size_dig) (by rw [zb_size, brow_size, hnl]) (brow_one _) ?_)
              | (refine wpList_load_midG rfl 23 _ rfl w.heap.size 0 rfl (leaf.map u8) _ (unhide HL3) Tryd.underlying23 rfl (unhide HSL) ?_)
              | (refine wpList_load_midG rfl 23 _ rfl w2.heap.size 0 rfl (D.map u8) _ (unhide HN3) Tryd.underlying23 rfl (unhide HSD) ?_))
            refine Calls.mono (proven_any (decide (leaf = D)) _) ?_
            rintro e w9 ⟨rfl, rfl⟩
            generalize hB9 : prE (decide (leaf = D)) = B9
            rw [hB9] at HC
            clear hB9
            go_wp2
            go_ret
            exact ⟨by rw [unhide HC]; rfl, unhide HK3⟩
          · have hp0' : ((p.length : Int) == 0) = false := by rw [beq_eq_false_iff_ne]; omega
            have HC := hide (by rw [unhide HE0, if_neg hgt, if_neg hmn, if_pos hm0, if_neg (fun h => hp0 (nil_of_len.1 h.1))]; rfl : E = prE false)
            go_wp2_with (rw [zb32]; refine wpList_store_row rfl 23 _ _ rfl w2.heap.size (brow D) rfl rfl _ (zb 32) (heap_alloc_new _ _) (by rw [brow_size, hnl]; exact Tryd.size_dig) (by rw [zb_size, brow_size, hnl]) (brow_one _) ?_)
            refine Calls.mono (proven_any false _) ?_
            rintro e w9 ⟨rfl, rfl⟩
            generalize hB9 : prE false = B9
            rw [hB9] at HC
            clear hB9
            go_wp2
            go_ret
            exact ⟨by rw [unhide HC]; rfl, unhide HK3⟩
        · have hm0' : ((m : Int) == 0) = false := by simp; omega
          have hdg := rootsD_dg (z := z) (m := m) (n := n) (unhide HL) (fun d hd => (unhide HP).dg hd)
          go_wp2_with (refine wpList_load_mid rfl 23 _ rfl w.heap.size 0 rfl (leaf.map u8) _ (range_row (unhide HL1)) Tryd.underlying23 rfl (unhide HSL) ?_)
          refine Calls.mono (rootsOf_any z m n leaf _ p _ hz (unhide HL) hi hn ((unhide HP).old (unhide HK1)) ((unhide HT).k (unhide HK1))) ?_
          rintro e w2 ⟨rfl, k2⟩
          obtain ⟨G, hG⟩ : ∃ G, rootsE z leaf m n p = G := ⟨_, rfl⟩
          obtain ⟨D, hD⟩ : ∃ D, rootsD z leaf m n p = D := ⟨_, rfl⟩
          rw [hD] at hdg
          have HE1 := hide (by rw [unhide HE0, if_neg hgt, if_neg hmn, if_neg hm0, hG, hD] : E = if G ≠ 0 then G else if D.1 = leaf ∧ D.2 = root then 0 else 10)
          rw [hG, hD]
          clear hG hD
          obtain ⟨D1, D2⟩ := D
          have hl4 := hdg.1.1
          have hl5 := hdg.2.1
          simp only at hl4 hl5 HE1 ⊢
          have HS4 := hide (by rw [List.length_map, hl4]; exact Tryd.size_dig : (Tryd.prog.info? 23).map (·.size) = some (D1.map u8).length)
          have HS5 := hide (by rw [List.length_map, hl5]; exact Tryd.size_dig : (Tryd.prog.info? 23).map (·.size) = some (D2.map u8).length)
          have HA0 := hide (((Kept.refl [] (w2.alloc (.cells (zb 32) 23))).alloc (.cells (zb 32) 23)).heap (heap_alloc_new w2 (.cells (zb 32) 23)) (by simp))
          have HB0 := hide ((setRow_other ((w2.alloc (.cells (zb 32) 23)).alloc (.cells (zb 32) 23)) w2.heap.size (w2.heap.size + 1) (brow D1) (by omega)).trans (alloc_at w2 (.cells (zb 32) 23) (.cells (zb 32) 23)))
          have kab := ((((Kept.refl [] w2).alloc (.cells (zb 32) 23)).alloc (.cells (zb 32) 23)).setRow (g := w2.heap.size) (Or.inr (Nat.le_refl _)) (brow D1)).setRow (g := w2.heap.size + 1) (Or.inr (by omega)) (brow D2)
          have HA1 := hide (range_row ((setRow_other (((w2.alloc (.cells (zb 32) 23)).alloc (.cells (zb 32) 23)).setRow w2.heap.size (brow D1)) (w2.heap.size + 1) w2.heap.size (brow D2) (by omega)).trans (setRow_heap _ _ _ (brow D1) _ _ (unhide HA0))))
          have HB1 := hide (range_row (setRow_heap (((w2.alloc (.cells (zb 32) 23)).alloc (.cells (zb 32) 23)).setRow w2.heap.size (brow D1)) _ _ (brow D2) _ _ (unhide HB0)))
          have kk := k2.trans kab (by simp)
          have HL3 := hide (range_row (kk.heap (unhide HL1) (by simp)))
          have HR3 := hide (range_row (kk.heap (unhide HR1) (by simp)))
          have HK3 := hide ((unhide HK1).trans kk (by simp))
          clear k2 kab kk hdg
          by_cases hG0 : G = 0
          · subst hG0
            have hqa : ∀ W, (Op.equalIn 10000 23 (.agg (D1.map u8).toArray) (.agg (leaf.map u8).toArray)).run Tryd.prog W = .ok (decide (D1 = leaf)) W := fun W => dig_eq W D1 leaf hl4 hll
            have hqb : ∀ W, (Op.equalIn 10000 23 (.agg (D2.map u8).toArray) (.agg (root.map u8).toArray)).run Tryd.prog W = .ok (decide (D2 = root)) W := fun W => dig_eq W D2 root hl5 hrl
            by_cases h1a : D1 = leaf
            · rw [decide_eq_true h1a] at hqa
              have HC := hide (by rw [unhide HE1, if_neg (by simp)]; by_cases h9 : D2 = root; rw [if_pos ⟨h1a, h9⟩]; simp [prE, h9]; rw [if_neg (fun h => h9 h.2)]; simp [prE, h9] : E = prE (decide (D2 = root)))
              clear h1a
              go_wp2_with (first
                | (rw [zb32]; refine wpList_store_row rfl 23 _ _ rfl w2.heap.size (brow D1) rfl rfl _ (zb 32) (unhide HA0) (by rw [brow_size, hl4]; exact Tryd.size_dig) (by rw [zb_size, brow_size, hl4]) (brow_one _) ?_; clear HA0)
                | (refine wpList_store_row rfl 23 _ _ rfl (w2.heap.size + 1) (brow D2) rfl rfl _ (zb 32) (unhide HB0) (by rw [brow_size, hl5]; exact Tryd.size_dig) (by rw [zb_size, brow_size, hl5]) (brow_one _) ?_; clear HB0)
                | (refine wpList_load_midG rfl 23 _ rfl w2.heap.size 0 rfl (D1.map u8) _ (unhide HA1) Tryd.underlying23 rfl (unhide HS4) ?_)
                | (refine wpList_load_midG rfl 23 _ rfl (w2.heap.size + 1) 0 rfl (D2.map u8) _ (unhide HB1) Tryd.underlying23 rfl (unhide HS5) ?_)
                | (refine wpList_load_midG rfl 23 _ rfl w.heap.size 0 rfl (leaf.map u8) _ (unhide HL3) Tryd.underlying23 rfl (unhide HSL) ?_)
                | (refine wpList_load_midG rfl 23 _ rfl (w.heap.size + 1) 0 rfl (root.map u8) _ (unhide HR3) Tryd.underlying23 rfl (unhide HSM) ?_))
              refine Calls.mono (proven_any (decide (D2 = root)) _) ?_
              rintro e w9 ⟨rfl, rfl⟩
              generalize hB9 : prE (decide (D2 = root)) = B9
              rw [hB9] at HC
              clear hB9
              go_wp2
              go_ret
              exact ⟨by rw [unhide HC]; rfl, unhide HK3⟩
            · rw [decide_eq_false h1a] at hqa
              have HC := hide (by rw [unhide HE1, if_neg (by simp), if_neg (fun h => h1a h.1)]; rfl : E = prE false)
              clear h1a
              go_wp2_with (first
                | (rw [zb32]; refine wpList_store_row rfl 23 _ _ rfl w2.heap.size (brow D1) rfl rfl _ (zb 32) (unhide HA0) (by rw [brow_size, hl4]; exact Tryd.size_dig) (by rw [zb_size, brow_size, hl4]) (brow_one _) ?_; clear HA0)
                | (refine wpList_store_row rfl 23 _ _ rfl (w2.heap.size + 1) (brow D2) rfl rfl _ (zb 32) (unhide HB0) (by rw [brow_size, hl5]; exact Tryd.size_dig) (by rw [zb_size, brow_size, hl5]) (brow_one _) ?_; clear HB0)
                | (refine wpList_load_midG rfl 23 _ rfl w2.heap.size 0 rfl (D1.map u8) _ (unhide HA1) Tryd.underlying23 rfl (unhide HS4) ?_)
                | (refine wpList_load_midG rfl 23 _ rfl w.heap.size 0 rfl (leaf.map u8) _ (unhide HL3) Tryd.underlying23 rfl (unhide HSL) ?_))
              refine Calls.mono (proven_any false _) ?_
              rintro e w9 ⟨rfl, rfl⟩
              generalize hB9 : prE false = B9
              rw [hB9] at HC
              clear hB9
              go_wp2
              go_ret
              exact ⟨by rw [unhide HC]; rfl, unhide HK3⟩
          · have hb : ((G : Int) != 0) = true := by simp; omega
            have HC := hide (by rw [unhide HE1, if_pos hG0] : E = G)
            go_wp2_with (first
              | (rw [zb32]; refine wpList_store_row rfl 23 _ _ rfl w2.heap.size (brow D1) rfl rfl _ (zb 32) (unhide HA0) (by rw [brow_size, hl4]; exact Tryd.size_dig) (by rw [zb_size, brow_size, hl4]) (brow_one _) ?_; clear HA0)
              | (refine wpList_store_row rfl 23 _ _ rfl (w2.heap.size + 1) (brow D2) rfl rfl _ (zb 32) (unhide HB0) (by rw [brow_size, hl5]; exact Tryd.size_dig) (by rw [zb_size, brow_size, hl5]) (brow_one _) ?_; clear HB0))
            go_ret
            exact ⟨by rw [unhide HC]; rfl, unhide HK3⟩
  · have hb : ((f : Int) != 0) = true := by simp; omega
    have HC := hide (by rw [← unhide HE, ← unhide HF]; unfold conE; rw [if_pos (by rw [unhide HF]; exact hf0)] : E = f)
    go_wp2
    go_ret
    exact ⟨by rw [unhide HC]; rfl, unhide HK1⟩
end Go.Proofs.YtbljofojeagdkaaDoor
