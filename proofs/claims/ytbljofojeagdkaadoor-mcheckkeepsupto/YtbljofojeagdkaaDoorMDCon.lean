import Derived.Test.YtbljofojeagdkaaDoorMDRoots
import Derived.Test.YtbljofojeagdkaaDoorMCon
namespace Go.Proofs.YtbljofojeagdkaaDoor
open Go.RowKit Go.BigFrame
set_option linter.unusedVariables false
set_option linter.unusedSimpArgs false

theorem formedE_allC {z : Int} {ds : List (List Nat)} (hw : widthB z = true) (h : ∀ d ∈ ds, formB z d = true) : formedE z ds = 0 := by
  unfold formedE
  rw [if_neg (by rw [hw]; simp), if_pos (List.all_eq_true.2 h)]
theorem own_lit2 (w : World) (l m : List Nat) (hl : l.length = 32) (hm : m.length = 32) : (w.alloc (.cells (l.map u8 ++ m.map u8).toArray 23)).ownsRow w.heap.size 23 32 (.slice (some ⟨w.heap.size, 0, none⟩) 2 2) ([l, m] : List (List Nat)).length (flatD [l, m]) := by
  have h := World.ownsRow_lit (base := w.heap.size) (e := 23) (size := 32) w (l.map u8 ++ m.map u8).toArray 2 (Nat.le_refl _) (by unfold maxLen; omega) (by simp [hl, hm])
  have e : (l.map u8 ++ m.map u8).toArray.toList = flatD [l, m] := by simp [flatD]
  rw [e] at h
  exact h
theorem rootsE_two {z : Int} {old : List Nat} {m n : Nat} {p : List (List Nat)} (h : formedE z (old :: p) = 0) (hr : ¬ (m = 0 ∨ n ≤ m)) : rootsE z old m n p = 0 ∨ rootsE z old m n p = 10 := by
  rw [(rootsE_c h hr).1]
  unfold opF
  split <;> simp

set_option maxRecDepth 100000 in
set_option maxHeartbeats 8000000 in
theorem docConsistency_any (z : Int) (m n : Nat) (leaf root : List Nat) (pv : Value) (p : List (List Nat)) (w : World) (hz : -9223372036854775808 ≤ z ∧ z ≤ 9223372036854775807) (hl : Dg leaf) (hr : Dg root) (hi : m < 18446744073709551616) (hn : n < 18446744073709551616) (hp : RdD w pv p) (hpl : p.length ≤ 1048576) :
    Calls Tryd.prog 16 #[.int .i64 z, .int .u64 m, .int .u64 n, .agg (brow leaf), .agg (brow root), pv] w fun e w' => e = .returned (.int .i64 (conE z m n leaf root p)) ∧ Kept [] w w' := by
  have HP := hide hp
  obtain ⟨ao, len, cap, rfl, h1, h2, h3, h4, h5⟩ := hp
  clear h4 h5
  subst h1
  have HL := hide hl
  have HR := hide hr
  have hll := hl.1
  have hrl := hr.1
  obtain ⟨E, hE⟩ : ∃ E, conE z m n leaf root p = E := ⟨_, rfl⟩
  have HE := hide hE
  rw [hE]
  clear hE
  go_enter Tryd.func16, Tryd.ntmps16
  have HGL := hide (((Kept.refl [] (w.alloc (.cells (brow leaf) 23))).alloc (.cells (brow root) 23)).heap (heap_alloc_new w (.cells (brow leaf) 23)) (by simp))
  have HGR := hide (alloc_at w (.cells (brow leaf) 23) (.cells (brow root) 23))
  have HK0 := hide (((Kept.refl [] w).alloc (.cells (brow leaf) 23)).alloc (.cells (brow root) 23))
  have HSL := hide (by rw [List.length_map, hll]; exact Tryd.size_dig : (Tryd.prog.info? 23).map (·.size) = some (leaf.map u8).length)
  have HSM := hide (by rw [List.length_map, hrl]; exact Tryd.size_dig : (Tryd.prog.info? 23).map (·.size) = some (root.map u8).length)
  have hfs : ∀ A : Array Value, (List.foldl (fun cs x => cs.setIfInBounds x.snd x.fst) A (List.map u8 leaf).zipIdx).size = A.size := fun A => fold_size _ A 0
  obtain ⟨W0, hW0⟩ : ∃ W0, (w.alloc (.cells (brow leaf) 23)).alloc (.cells (brow root) 23) = W0 := ⟨_, rfl⟩
  have HLIT := hide (own_lit2 W0 leaf root hll hrl)
  have hsz : w.heap.size + 1 + 1 = W0.heap.size := by rw [← hW0]; simp
  rw [hW0] at HGL HGR HK0
  have k0 := (Kept.refl [] W0).alloc (.cells (leaf.map u8 ++ root.map u8).toArray 23)
  have HK00 := hide k0
  have HP0 := hide ((unhide HP).old ((unhide HK0).trans k0 (by simp)))
  clear k0
  go_wp2_with (first
    | (refine wpList_load_mid rfl 23 _ rfl w.heap.size 0 rfl (leaf.map u8) _ (range_row (unhide HGL)) Tryd.underlying23 rfl (unhide HSL) ?_)
    | (refine wpList_load_mid rfl 23 _ rfl (w.heap.size + 1) 0 rfl (root.map u8) _ (range_row (unhide HGR)) Tryd.underlying23 rfl (unhide HSM) ?_)
    | (at_builtin; rw [zb64, two_digs leaf root hll hrl]; refine wpList_appendD rfl (.tmp 21) (.tmp 22) rfl rfl _ W0.heap.size (.slice (some ⟨W0.heap.size, 0, none⟩) 2 2) [leaf, root] p ao p.length cap (by exact unhide HLIT) (by exact unhide HP0) (by simp; omega) (by simp) rfl rfl ?_; intro ao1 cap1 w1 HO1 HG1; have HKG := hide ((unhide HK00).grown (unhide HG1) (by intro k hk; right; simp [Value.ownBlock] at hk; omega)); clear HG1))
  have HR1 := hide (rdd_owns (unhide HO1) (fun d hd => by rcases List.mem_append.1 hd with h | h; simp at h; rcases h with rfl | rfl; exact unhide HL; exact unhide HR; exact (unhide HP).dg h))
  have HK1' := hide ((unhide HK0).trans (unhide HKG) (by simp))
  have HL1' := hide ((unhide HKG).heap (unhide HGL) (by simp))
  have HM1' := hide ((unhide HKG).heap (unhide HGR) (by simp))
  clear HGL HGR HO1 HKG HLIT HK00 HP0 hW0 hfs
  refine Calls.mono (refCheck_any z _ ([leaf, root] ++ p) _ hz (unhide HR1)) ?_
  rintro e w2 ⟨rfl, k2⟩
  have HK1 := hide ((unhide HK1').trans k2 (by simp))
  have HL1 := hide (k2.heap (unhide HL1') (by simp))
  have HM1 := hide (k2.heap (unhide HM1') (by simp))
  clear k2 HK1' HL1' HM1' HR1
  obtain ⟨f, hf⟩ : ∃ f, formedE z ([leaf, root] ++ p) = f := ⟨_, rfl⟩
  have HF := hide (show formedE z (leaf :: root :: p) = f from hf)
  rw [hf]
  clear hf
  by_cases hf0 : f = 0
  · subst hf0
    obtain ⟨hw, hff⟩ := formedE_zero (unhide HF)
    have HFL := hide (formedE_allC hw (by intro d hd; rcases List.mem_cons.1 hd with rfl | h; exact hff _ (by simp); exact hff d (by simp [h])) : formedE z (leaf :: p) = 0)
    clear hff
    have HE0 := hide (by rw [← unhide HE]; unfold conE; rw [if_neg (by rw [unhide HF]; simp)] : E = if n < m then 4 else if m = n then (if p = [] ∧ leaf = root then 0 else 10) else if m = 0 then (if p = [] ∧ leaf = sumD z [] then 0 else 10) else if rootsE z leaf m n p ≠ 0 then rootsE z leaf m n p else if (rootsD z leaf m n p).1 = leaf ∧ (rootsD z leaf m n p).2 = root then 0 else 10)
    by_cases hgt : n < m
    · have hgt' : (n : Int) < m := by omega
      have HC := hide (by rw [unhide HE0, if_pos hgt] : E = 4)
      go_wp2
      go_ret
      exact ⟨by rw [unhide HC]; rfl, unhide HK1⟩
    · have hgt' : ¬ (n : Int) < m := by omega
      by_cases hmn : m = n
      · have hmn' : ((m : Int) == n) = true := by simp; omega
        have hqd : ∀ W, (Op.equalIn 10000 23 (.agg (leaf.map u8).toArray) (.agg (root.map u8).toArray)).run Tryd.prog W = .ok (decide (leaf = root)) W := fun W => dig_eq W leaf root hll hrl
        by_cases hp0 : p.length = 0
        · have hp0' : ((p.length : Int) == 0) = true := by rw [beq_iff_eq]; omega
          by_cases h9 : leaf = root
          · have HC := hide (by rw [unhide HE0, if_neg hgt, if_pos hmn, if_pos ⟨nil_of_len.2 hp0, h9⟩] : E = 0)
            rw [decide_eq_true h9] at hqd
            clear h9
            go_wp2_with (first
              | (refine wpList_load_midG rfl 23 _ rfl w.heap.size 0 rfl (leaf.map u8) _ (range_row (unhide HL1)) Tryd.underlying23 rfl (unhide HSL) ?_)
              | (refine wpList_load_midG rfl 23 _ rfl (w.heap.size + 1) 0 rfl (root.map u8) _ (range_row (unhide HM1)) Tryd.underlying23 rfl (unhide HSM) ?_))
            go_ret
            exact ⟨by rw [unhide HC]; rfl, unhide HK1⟩
          · have HC := hide (by rw [unhide HE0, if_neg hgt, if_pos hmn, if_neg (fun h => h9 h.2)] : E = 10)
            rw [decide_eq_false h9] at hqd
            clear h9
            go_wp2_with (first
              | (refine wpList_load_midG rfl 23 _ rfl w.heap.size 0 rfl (leaf.map u8) _ (range_row (unhide HL1)) Tryd.underlying23 rfl (unhide HSL) ?_)
              | (refine wpList_load_midG rfl 23 _ rfl (w.heap.size + 1) 0 rfl (root.map u8) _ (range_row (unhide HM1)) Tryd.underlying23 rfl (unhide HSM) ?_))
            go_ret
            exact ⟨by rw [unhide HC]; rfl, unhide HK1⟩
        · have hp0' : ((p.length : Int) == 0) = false := by rw [beq_eq_false_iff_ne]; omega
          have HC := hide (by rw [unhide HE0, if_neg hgt, if_pos hmn, if_neg (fun h => hp0 (nil_of_len.1 h.1))] : E = 10)
          go_wp2
          go_ret
          exact ⟨by rw [unhide HC]; rfl, unhide HK1⟩
      · have hmn' : ((m : Int) == n) = false := by simp; omega
        have hwd : 1 ≤ z ∧ z ≤ 32 := by simpa [widthB] using hw
        by_cases hm0 : m = 0
        · have hm0' : ((m : Int) == 0) = true := by simp; omega
          by_cases hp0 : p.length = 0
          · have hp0' : ((p.length : Int) == 0) = true := by rw [beq_iff_eq]; omega
            obtain ⟨k, rfl⟩ : ∃ k : Nat, z = k := ⟨z.toNat, by omega⟩
            have HNL := hide (by unfold sumD; rw [if_pos hw, Int.toNat_natCast] : sumD (k : Int) [] = cutL k (hash []))
            have hnl := cutL_len k (hash []) (by omega) (hash_len [])
            go_wp2_with fail
            obtain ⟨D, hD⟩ : ∃ D, cutL k (hash []) = D := ⟨_, rfl⟩
            rw [hD] at HNL hnl
            have HCT := hide (fun w' (hw' : Kept [] w2 w') => (refNoLog_any k w' (by omega)).mono (fun e w3 (h3 : _ ∧ _) => (⟨by rw [← hD]; exact h3.1, hw'.trans h3.2 (by simp)⟩ : e = .returned (.agg (brow D)) ∧ Kept [] w2 w3)))
            clear hD
            have hqd : ∀ W, (Op.equalIn 10000 23 (.agg (brow leaf)) (.agg (brow D))).run Tryd.prog W = .ok (decide (leaf = D)) W := fun W => dig_eq W leaf D hll hnl
            have hne : ∀ q : Prop, (∀ w', Kept [] w2 w' → q) = q := fun q => propext ⟨fun h => h w2 (Kept.refl [] w2), fun h _ _ => h⟩
            have HZZ := hide (by rw [brow_size, hll]; exact Tryd.size_dig : (Tryd.prog.info? 23).map (·.size) = some (brow leaf).size)
            obtain ⟨q, hq⟩ : ∃ q : Bool, decide (leaf = D) = q := ⟨_, rfl⟩
            rw [hq] at hqd
            have HCQ := hide (by rw [unhide HE0, if_neg hgt, if_neg hmn, if_pos hm0, unhide HNL]; by_cases h9 : leaf = D; rw [if_pos ⟨nil_of_len.2 hp0, h9⟩, ← hq]; simp [h9]; rw [if_neg (fun h => h9 h.2), ← hq]; simp [h9] : E = if q = true then 0 else 10)
            clear hq
            refine wp_region_keep (by kernel_rfl) (by kernel_rfl) ?_
            iterate 4 (go_big_quiet_step (fail))
            refine wpQuiet_row rfl 23 (.tmp 9) rfl w.heap.size rfl _ (brow leaf) (0, 0) _ (fun w' hw' => hw'.heap (unhide HL1) (by simp)) Tryd.underlying23 rfl (unhide HZZ) ?_
            simp only [Act.put, List.setIfInBounds_toArray, List.set_cons_succ, List.set_cons_zero]
            go_big_quiet_step (fail)
            go_big_quiet_want
            go_big_quiet_op
            apply Exists.intro
            refine ⟨fun w' hw' => ?_, ?_⟩
            · exact unhide HCT w' hw'
            go_big_quiet_on
            refine wpQuiet_val rfl (.bool q) (fun w' _ => run_eql 23 (.tmp 73) (.tmp 75) 23 rfl (brow leaf) (brow D) rfl rfl w' q (by kernel_rfl) (hqd w')) ?_
            simp only [Act.put, List.setIfInBounds_toArray, List.set_cons_succ, List.set_cons_zero]
            repeat (go_big_quiet_step (fail))
            refine wpQuiet_nil ?_
            intro w5 hw5
            have HK3 := hide ((unhide HK1).trans hw5 (by simp))
            clear hw5 hne hqd
            cases q with
            | true =>
              have HC := hide (by rw [unhide HCQ]; rfl : E = 0)
              go_wp2
              go_ret
              exact ⟨by rw [unhide HC]; rfl, unhide HK3⟩
            | false =>
              have HC := hide (by rw [unhide HCQ]; rfl : E = 10)
              go_wp2
              go_ret
              exact ⟨by rw [unhide HC]; rfl, unhide HK3⟩
          · have hp0' : ((p.length : Int) == 0) = false := by rw [beq_eq_false_iff_ne]; omega
            have HC := hide (by rw [unhide HE0, if_neg hgt, if_neg hmn, if_pos hm0, if_neg (fun h => hp0 (nil_of_len.1 h.1))] : E = 10)
            have hne : ∀ q : Prop, (∀ w', Kept [] w2 w' → q) = q := fun q => propext ⟨fun h => h w2 (Kept.refl [] w2), fun h _ _ => h⟩
            go_wp2_with fail
            refine wp_region_keep (by kernel_rfl) (by kernel_rfl) ?_
            repeat (go_big_quiet_step (fail))
            refine wpQuiet_nil ?_
            intro w5 hw5
            have HK3 := hide ((unhide HK1).trans hw5 (by simp))
            clear hw5 hne
            go_wp2
            go_ret
            exact ⟨by rw [unhide HC]; rfl, unhide HK3⟩
        · have hm0' : ((m : Int) == 0) = false := by simp; omega
          have hdg := rootsD_dg (z := z) (m := m) (n := n) (unhide HL) (fun d hd => (unhide HP).dg hd)
          have hG2 := rootsE_two (m := m) (n := n) (unhide HFL) (by omega)
          go_wp2_with (refine wpList_load_mid rfl 23 _ rfl w.heap.size 0 rfl (leaf.map u8) _ (range_row (unhide HL1)) Tryd.underlying23 rfl (unhide HSL) ?_)
          refine Calls.mono (docRootsOf_any z m n leaf _ p _ hz (unhide HL) hi hn ((unhide HP).old (unhide HK1)) hpl) ?_
          rintro e w2' ⟨rfl, k2⟩
          obtain ⟨G, hG⟩ : ∃ G, rootsE z leaf m n p = G := ⟨_, rfl⟩
          obtain ⟨D, hD⟩ : ∃ D, rootsD z leaf m n p = D := ⟨_, rfl⟩
          rw [hD] at hdg
          rw [hG] at hG2
          have HE1 := hide (by rw [unhide HE0, if_neg hgt, if_neg hmn, if_neg hm0, hG, hD] : E = if G ≠ 0 then G else if D.1 = leaf ∧ D.2 = root then 0 else 10)
          rw [hG, hD]
          clear hG hD
          obtain ⟨D1, D2⟩ := D
          have hl4 := hdg.1.1
          have hl5 := hdg.2.1
          simp only at hl4 hl5 HE1 ⊢
          have HS4 := hide (by rw [List.length_map, hl4]; exact Tryd.size_dig : (Tryd.prog.info? 23).map (·.size) = some (D1.map u8).length)
          have HS5 := hide (by rw [List.length_map, hl5]; exact Tryd.size_dig : (Tryd.prog.info? 23).map (·.size) = some (D2.map u8).length)
          have HA0 := hide (((Kept.refl [] (w2'.alloc (.cells (zb 32) 23))).alloc (.cells (zb 32) 23)).heap (heap_alloc_new w2' (.cells (zb 32) 23)) (by simp))
          have HB0 := hide ((setRow_other ((w2'.alloc (.cells (zb 32) 23)).alloc (.cells (zb 32) 23)) w2'.heap.size (w2'.heap.size + 1) (brow D1) (by omega)).trans (alloc_at w2' (.cells (zb 32) 23) (.cells (zb 32) 23)))
          have kab := ((((Kept.refl [] w2').alloc (.cells (zb 32) 23)).alloc (.cells (zb 32) 23)).setRow (g := w2'.heap.size) (Or.inr (Nat.le_refl _)) (brow D1)).setRow (g := w2'.heap.size + 1) (Or.inr (by omega)) (brow D2)
          have HA1 := hide (range_row ((setRow_other (((w2'.alloc (.cells (zb 32) 23)).alloc (.cells (zb 32) 23)).setRow w2'.heap.size (brow D1)) (w2'.heap.size + 1) w2'.heap.size (brow D2) (by omega)).trans (setRow_heap _ _ _ (brow D1) _ _ (unhide HA0))))
          have HB1 := hide (range_row (setRow_heap (((w2'.alloc (.cells (zb 32) 23)).alloc (.cells (zb 32) 23)).setRow w2'.heap.size (brow D1)) _ _ (brow D2) _ _ (unhide HB0)))
          have kk := k2.trans kab (by simp)
          have HL3 := hide (range_row (kk.heap (unhide HL1) (by simp)))
          have HR3 := hide (range_row (kk.heap (unhide HM1) (by simp)))
          have HK3 := hide ((unhide HK1).trans kk (by simp))
          clear k2 kab kk hdg
          have hqa : ∀ W, (Op.equalIn 10000 23 (.agg (D1.map u8).toArray) (.agg (leaf.map u8).toArray)).run Tryd.prog W = .ok (decide (D1 = leaf)) W := fun W => dig_eq W D1 leaf hl4 hll
          have hqb : ∀ W, (Op.equalIn 10000 23 (.agg (D2.map u8).toArray) (.agg (root.map u8).toArray)).run Tryd.prog W = .ok (decide (D2 = root)) W := fun W => dig_eq W D2 root hl5 hrl
          by_cases hG0 : G = 0
          · subst hG0
            by_cases h1a : D1 = leaf
            · rw [decide_eq_true h1a] at hqa
              by_cases h1b : D2 = root
              · rw [decide_eq_true h1b] at hqb
                have HC := hide (by rw [unhide HE1, if_neg (by simp), if_pos ⟨h1a, h1b⟩] : E = 0)
                clear h1a h1b
                go_wp2_with (first
                  | (rw [zb32]; refine wpList_store_row rfl 23 _ _ rfl w2'.heap.size (brow D1) rfl rfl _ (zb 32) (unhide HA0) (by rw [brow_size, hl4]; exact Tryd.size_dig) (by rw [zb_size, brow_size, hl4]) (brow_one _) ?_; clear HA0)
                  | (refine wpList_store_row rfl 23 _ _ rfl (w2'.heap.size + 1) (brow D2) rfl rfl _ (zb 32) (unhide HB0) (by rw [brow_size, hl5]; exact Tryd.size_dig) (by rw [zb_size, brow_size, hl5]) (brow_one _) ?_; clear HB0)
                  | (refine wpList_load_midG rfl 23 _ rfl w2'.heap.size 0 rfl (D1.map u8) _ (unhide HA1) Tryd.underlying23 rfl (unhide HS4) ?_)
                  | (refine wpList_load_midG rfl 23 _ rfl (w2'.heap.size + 1) 0 rfl (D2.map u8) _ (unhide HB1) Tryd.underlying23 rfl (unhide HS5) ?_)
                  | (refine wpList_load_midG rfl 23 _ rfl w.heap.size 0 rfl (leaf.map u8) _ (unhide HL3) Tryd.underlying23 rfl (unhide HSL) ?_)
                  | (refine wpList_load_midG rfl 23 _ rfl (w.heap.size + 1) 0 rfl (root.map u8) _ (unhide HR3) Tryd.underlying23 rfl (unhide HSM) ?_))
                go_ret
                exact ⟨by rw [unhide HC]; rfl, unhide HK3⟩
              · rw [decide_eq_false h1b] at hqb
                have HC := hide (by rw [unhide HE1, if_neg (by simp), if_neg (fun h => h1b h.2)] : E = 10)
                clear h1a h1b
                go_wp2_with (first
                  | (rw [zb32]; refine wpList_store_row rfl 23 _ _ rfl w2'.heap.size (brow D1) rfl rfl _ (zb 32) (unhide HA0) (by rw [brow_size, hl4]; exact Tryd.size_dig) (by rw [zb_size, brow_size, hl4]) (brow_one _) ?_; clear HA0)
                  | (refine wpList_store_row rfl 23 _ _ rfl (w2'.heap.size + 1) (brow D2) rfl rfl _ (zb 32) (unhide HB0) (by rw [brow_size, hl5]; exact Tryd.size_dig) (by rw [zb_size, brow_size, hl5]) (brow_one _) ?_; clear HB0)
                  | (refine wpList_load_midG rfl 23 _ rfl w2'.heap.size 0 rfl (D1.map u8) _ (unhide HA1) Tryd.underlying23 rfl (unhide HS4) ?_)
                  | (refine wpList_load_midG rfl 23 _ rfl (w2'.heap.size + 1) 0 rfl (D2.map u8) _ (unhide HB1) Tryd.underlying23 rfl (unhide HS5) ?_)
                  | (refine wpList_load_midG rfl 23 _ rfl w.heap.size 0 rfl (leaf.map u8) _ (unhide HL3) Tryd.underlying23 rfl (unhide HSL) ?_)
                  | (refine wpList_load_midG rfl 23 _ rfl (w.heap.size + 1) 0 rfl (root.map u8) _ (unhide HR3) Tryd.underlying23 rfl (unhide HSM) ?_))
                go_ret
                exact ⟨by rw [unhide HC]; rfl, unhide HK3⟩
            · rw [decide_eq_false h1a] at hqa
              have HC := hide (by rw [unhide HE1, if_neg (by simp), if_neg (fun h => h1a h.1)] : E = 10)
              clear h1a
              go_wp2_with (first
                | (rw [zb32]; refine wpList_store_row rfl 23 _ _ rfl w2'.heap.size (brow D1) rfl rfl _ (zb 32) (unhide HA0) (by rw [brow_size, hl4]; exact Tryd.size_dig) (by rw [zb_size, brow_size, hl4]) (brow_one _) ?_; clear HA0)
                | (refine wpList_store_row rfl 23 _ _ rfl (w2'.heap.size + 1) (brow D2) rfl rfl _ (zb 32) (unhide HB0) (by rw [brow_size, hl5]; exact Tryd.size_dig) (by rw [zb_size, brow_size, hl5]) (brow_one _) ?_; clear HB0)
                | (refine wpList_load_midG rfl 23 _ rfl w2'.heap.size 0 rfl (D1.map u8) _ (unhide HA1) Tryd.underlying23 rfl (unhide HS4) ?_)
                | (refine wpList_load_midG rfl 23 _ rfl (w2'.heap.size + 1) 0 rfl (D2.map u8) _ (unhide HB1) Tryd.underlying23 rfl (unhide HS5) ?_)
                | (refine wpList_load_midG rfl 23 _ rfl w.heap.size 0 rfl (leaf.map u8) _ (unhide HL3) Tryd.underlying23 rfl (unhide HSL) ?_)
                | (refine wpList_load_midG rfl 23 _ rfl (w.heap.size + 1) 0 rfl (root.map u8) _ (unhide HR3) Tryd.underlying23 rfl (unhide HSM) ?_))
              go_ret
              exact ⟨by rw [unhide HC]; rfl, unhide HK3⟩
          · have hb : ((G : Int) == 0) = false := by simp; omega
            have HC := hide (by rw [unhide HE1, if_pos hG0]; omega : E = 10)
            go_wp2_with (first
              | (rw [zb32]; refine wpList_store_row rfl 23 _ _ rfl w2'.heap.size (brow D1) rfl rfl _ (zb 32) (unhide HA0) (by rw [brow_size, hl4]; exact Tryd.size_dig) (by rw [zb_size, brow_size, hl4]) (brow_one _) ?_; clear HA0)
              | (refine wpList_store_row rfl 23 _ _ rfl (w2'.heap.size + 1) (brow D2) rfl rfl _ (zb 32) (unhide HB0) (by rw [brow_size, hl5]; exact Tryd.size_dig) (by rw [zb_size, brow_size, hl5]) (brow_one _) ?_; clear HB0)
              | (refine wpList_load_midG rfl 23 _ rfl w2'.heap.size 0 rfl (D1.map u8) _ (unhide HA1) Tryd.underlying23 rfl (unhide HS4) ?_)
              | (refine wpList_load_midG rfl 23 _ rfl (w2'.heap.size + 1) 0 rfl (D2.map u8) _ (unhide HB1) Tryd.underlying23 rfl (unhide HS5) ?_)
              | (refine wpList_load_midG rfl 23 _ rfl w.heap.size 0 rfl (leaf.map u8) _ (unhide HL3) Tryd.underlying23 rfl (unhide HSL) ?_)
              | (refine wpList_load_midG rfl 23 _ rfl (w.heap.size + 1) 0 rfl (root.map u8) _ (unhide HR3) Tryd.underlying23 rfl (unhide HSM) ?_))
            go_ret
            exact ⟨by rw [unhide HC]; rfl, unhide HK3⟩
  · have hb : ((f : Int) != 0) = true := by simp; omega
    have HC := hide (by rw [← unhide HE, ← unhide HF]; unfold conE; rw [if_pos (by rw [unhide HF]; exact hf0)] : E = f)
    go_wp2
    go_ret
    exact ⟨by rw [unhide HC]; rfl, unhide HK1⟩
end Go.Proofs.YtbljofojeagdkaaDoor
