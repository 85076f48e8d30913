import Derived.Test.YtbljofojeagdkaaDoorMAw
namespace Go.Proofs.YtbljofojeagdkaaDoor
open Go.RowKit Go.BigFrame
set_option linter.unusedVariables false
set_option linter.unusedSimpArgs false

/-- What DocInclusion answers. -/
def dincE (z : Int) (leaf : List Nat) (i n : Nat) (p : List (List Nat)) (root : List Nat) : Nat := if formedE z [root] ≠ 0 then formedE z [root] else if rootE z leaf i n p ≠ 0 then rootE z leaf i n p else if rootD z leaf i n p = root then 0 else 10
theorem dinc_eq (z : Int) (leaf : List Nat) (i n : Nat) (p : List (List Nat)) (root : List Nat) : incE z leaf i n p root = dincE z leaf i n p root := by
  have key : ∀ ds : List (List Nat), formedE z ds = if widthB z = false then 1 else if ds.all (formB z) then 0 else 3 := fun ds => rfl
  unfold incE dincE
  cases hw : widthB z with
  | false =>
    have h1 : ∀ ds, formedE z ds = 1 := fun ds => by rw [key, if_pos hw]
    rw [h1, h1]
  | true =>
    have h1 : ∀ ds : List (List Nat), formedE z ds = if ds.all (formB z) then 0 else 3 := fun ds => by rw [key, if_neg (by rw [hw]; simp)]
    cases hr : formB z root with
    | false =>
      have a1 : formedE z (leaf :: root :: p) = 3 := by rw [h1, if_neg (by simp [hr])]
      have a2 : formedE z [root] = 3 := by rw [h1, if_neg (by simp [hr])]
      rw [a1, a2]
    | true =>
      have a2 : formedE z [root] = 0 := by rw [h1, if_pos (by simp [hr])]
      have a1 : formedE z (leaf :: root :: p) = formedE z (leaf :: p) := by rw [h1, h1]; simp [hr]
      rw [a1, a2, if_neg (show ¬ (0 : Nat) ≠ 0 by decide)]
      by_cases h : formedE z (leaf :: p) = 0
      · rw [if_neg (by omega)]
      · rw [if_pos h, if_pos (by rw [(rootE_f h).1]; exact h), (rootE_f h).1]

set_option maxRecDepth 100000 in
set_option maxHeartbeats 2000000 in
theorem docInclusion_any (z : Int) (leaf : List Nat) (i n : Nat) (pv : Value) (p : List (List Nat)) (root : List Nat) (w : World) (hz : -9223372036854775808 ≤ z ∧ z ≤ 9223372036854775807) (hl : Dg leaf) (hr : Dg root) (hi : i < 18446744073709551616) (hn : n < 18446744073709551616) (hp : RdD w pv p) (hpl : p.length ≤ 1048576) :
    Calls Tryd.prog 15 #[.int .i64 z, .agg (brow leaf), .int .u64 i, .int .u64 n, pv, .agg (brow root)] w fun e w' => e = .returned (.int .i64 (dincE z leaf i n p root)) ∧ Kept [] w w' := by
  have HP := hide hp
  obtain ⟨ao, len, cap, rfl, h1, h2, h3, h4, h5⟩ := hp
  clear h4 h5
  have HL := hide hl
  have HR := hide hr
  have hll := hl.1
  have hrl := hr.1
  obtain ⟨E, hE⟩ : ∃ E, dincE z leaf i n p root = E := ⟨_, rfl⟩
  have HE := hide hE
  rw [hE]
  clear hE
  go_enter Tryd.func15, Tryd.ntmps15
  have HGL := hide (((Kept.refl [] (w.alloc (.cells (brow leaf) 23))).alloc (.cells (brow root) 23)).heap (heap_alloc_new w (.cells (brow leaf) 23)) (by simp))
  have HGR := hide (alloc_at w (.cells (brow leaf) 23) (.cells (brow root) 23))
  have HK0 := hide (((Kept.refl [] w).alloc (.cells (brow leaf) 23)).alloc (.cells (brow root) 23))
  have HSL := hide (by rw [List.length_map, hll]; exact Tryd.size_dig : (Tryd.prog.info? 23).map (·.size) = some (leaf.map u8).length)
  have HSM := hide (by rw [List.length_map, hrl]; exact Tryd.size_dig : (Tryd.prog.info? 23).map (·.size) = some (root.map u8).length)
  go_wp2_with (refine wpList_load_mid rfl 23 _ rfl (w.heap.size + 1) 0 rfl (root.map u8) _ (range_row (unhide HGR)) Tryd.underlying23 rfl (unhide HSM) ?_)
  rw [zb32, one_dig root hrl]
  have k0 := (Kept.refl [] ((w.alloc (.cells (brow leaf) 23)).alloc (.cells (brow root) 23))).alloc (.cells (brow root) 23)
  refine Calls.mono (refCheck_any z _ [root] _ hz (RdD.one (alloc3_at _ _ _ _) (unhide HR))) ?_
  rintro e w1 ⟨rfl, k1⟩
  have k01 := k0.trans k1 (by simp)
  have HK1 := hide ((unhide HK0).trans k01 (by simp))
  have HL1 := hide (k01.heap (unhide HGL) (by simp))
  have HR1 := hide (k01.heap (unhide HGR) (by simp))
  clear k0 k1 k01 HGL HGR
  obtain ⟨f, hf⟩ : ∃ f, formedE z [root] = f := ⟨_, rfl⟩
  have HF := hide hf
  rw [hf]
  clear hf
  go_wp2_with (refine wpList_load_mid rfl 23 _ rfl w.heap.size 0 rfl (leaf.map u8) _ (range_row (unhide HL1)) Tryd.underlying23 rfl (unhide HSL) ?_)
  refine Calls.mono (docRootOf_any z leaf i n _ p _ hz (unhide HL) hi hn ((unhide HP).old (unhide HK1)) hpl) ?_
  rintro e w2 ⟨rfl, k2⟩
  have HDG := hide (rootD_dg (z := z) (i := i) (n := n) (p := p) (unhide HL))
  obtain ⟨D, hD⟩ : ∃ D, rootD z leaf i n p = D := ⟨_, rfl⟩
  obtain ⟨G, hG⟩ : ∃ G, rootE z leaf i n p = G := ⟨_, rfl⟩
  rw [hD] at HDG
  have hdl := (unhide HDG).1
  have HD := hide hD
  have HG := hide hG
  rw [hD, hG]
  clear hD hG
  have HR2 := hide (k2.heap (unhide HR1) (by simp))
  have HK2 := hide ((unhide HK1).trans k2 (by simp))
  clear k2 HL1 HR1
  have HSO := hide (by rw [brow_size, hdl]; exact Tryd.size_dig : (Tryd.prog.info? 23).map (·.size) = some (brow D).size)
  have HSOL := hide (by rw [List.length_map, hdl]; exact Tryd.size_dig : (Tryd.prog.info? 23).map (·.size) = some (D.map u8).length)
  have HNW := hide (setRow_heap (w2.alloc (.cells (zb 32) 23)) w2.heap.size (zb 32) (brow D) 23 (0, 0) (heap_alloc_new _ _))
  have k5 := ((Kept.refl [] w2).alloc (.cells (zb 32) 23)).setRow (g := w2.heap.size) (Or.inr (Nat.le_refl _)) (brow D)
  have HR5 := hide (k5.heap (unhide HR2) (by simp))
  have HK5 := hide ((unhide HK2).trans k5 (by simp))
  clear k5 HR2
  have HEE := hide (by rw [← unhide HE]; unfold dincE; rw [unhide HF, unhide HD, unhide HG] : E = if f ≠ 0 then f else if G ≠ 0 then G else if D = root then 0 else 10)
  by_cases hf0 : f = 0
  · subst hf0
    by_cases hg0 : G = 0
    · subst hg0
      have hqd : ∀ W, (Op.equalIn 10000 23 (.agg (D.map u8).toArray) (.agg (root.map u8).toArray)).run Tryd.prog W = .ok (decide (D = root)) W := fun W => dig_eq W D root hdl hrl
      by_cases hdr : D = root
      · have HC := hide (by rw [unhide HEE]; simp [hdr] : E = 0)
        rw [decide_eq_true hdr] at hqd
        clear hdr
        go_wp2_with (first
          | (rw [zb32]; refine wpList_store_row rfl 23 _ _ rfl w2.heap.size (brow D) rfl rfl _ (zb 32) (heap_alloc_new _ _) (unhide HSO) (by rw [zb_size, brow_size, hdl]) (brow_one _) ?_)
          | (refine wpList_load_mid rfl 23 _ rfl w2.heap.size 0 rfl (D.map u8) _ (range_row (unhide HNW)) Tryd.underlying23 rfl (unhide HSOL) ?_)
          | (refine wpList_load_mid rfl 23 _ rfl (w.heap.size + 1) 0 rfl (root.map u8) _ (range_row (unhide HR5)) Tryd.underlying23 rfl (unhide HSM) ?_))
        go_ret
        exact ⟨by rw [unhide HC]; rfl, unhide HK5⟩
      · have HC := hide (by rw [unhide HEE]; simp [hdr] : E = 10)
        rw [decide_eq_false hdr] at hqd
        clear hdr
        go_wp2_with (first
          | (rw [zb32]; refine wpList_store_row rfl 23 _ _ rfl w2.heap.size (brow D) rfl rfl _ (zb 32) (heap_alloc_new _ _) (unhide HSO) (by rw [zb_size, brow_size, hdl]) (brow_one _) ?_)
          | (refine wpList_load_mid rfl 23 _ rfl w2.heap.size 0 rfl (D.map u8) _ (range_row (unhide HNW)) Tryd.underlying23 rfl (unhide HSOL) ?_)
          | (refine wpList_load_mid rfl 23 _ rfl (w.heap.size + 1) 0 rfl (root.map u8) _ (range_row (unhide HR5)) Tryd.underlying23 rfl (unhide HSM) ?_))
        go_ret
        exact ⟨by rw [unhide HC]; rfl, unhide HK5⟩
    · have hb : ((G : Int) != 0) = true := by simp; omega
      have HC := hide (by rw [unhide HEE]; simp [hg0] : E = G)
      go_wp2_with (rw [zb32]; refine wpList_store_row rfl 23 _ _ rfl w2.heap.size (brow D) rfl rfl _ (zb 32) (heap_alloc_new _ _) (unhide HSO) (by rw [zb_size, brow_size, hdl]) (brow_one _) ?_)
      go_ret
      exact ⟨by rw [unhide HC]; rfl, unhide HK5⟩
  · have hb : ((f : Int) != 0) = true := by simp; omega
    have HC := hide (by rw [unhide HEE]; simp [hf0] : E = f)
    go_wp2_with (rw [zb32]; refine wpList_store_row rfl 23 _ _ rfl w2.heap.size (brow D) rfl rfl _ (zb 32) (heap_alloc_new _ _) (unhide HSO) (by rw [zb_size, brow_size, hdl]) (brow_one _) ?_)
    go_ret
    exact ⟨by rw [unhide HC]; rfl, unhide HK5⟩
end Go.Proofs.YtbljofojeagdkaaDoor
