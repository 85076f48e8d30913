import Derived.Test.YtbljofojeagdkaaDoorMDoc
namespace Go.Proofs.YtbljofojeagdkaaDoor
open Go.RowKit Go.BigFrame
set_option linter.unusedVariables false
set_option linter.unusedSimpArgs false

def prE (b : Bool) : Nat := if b then 0 else 10

set_option maxRecDepth 100000 in
set_option maxHeartbeats 1000000 in
theorem proven_any (b : Bool) (w : World) :
    Calls Tryd.prog 29 #[.bool b] w fun e w' => e = .returned (.int .i64 (prE b)) ∧ w' = w := by
  go_enter Tryd.func29, Tryd.ntmps29
  cases b with
  | true =>
    go_wp2
    go_ret
    exact ⟨rfl, rfl⟩
  | false =>
    go_wp2
    go_ret
    exact ⟨rfl, rfl⟩

set_option maxRecDepth 100000 in
set_option maxHeartbeats 2000000 in
theorem inclusion_any (z : Int) (leaf : List Nat) (i n : Nat) (pv : Value) (p : List (List Nat)) (root : List Nat) (w : World) (hz : -9223372036854775808 ≤ z ∧ z ≤ 9223372036854775807) (hl : Dg leaf) (hr : Dg root) (hi : i < 18446744073709551616) (hn : n < 18446744073709551616) (hp : RdD w pv p) (hT : Tabs w) :
    Calls Tryd.prog 10 #[.int .i64 z, .agg (brow leaf), .int .u64 i, .int .u64 n, pv, .agg (brow root)] w fun e w' => e = .returned (.int .i64 (incE z leaf i n p root)) ∧ Kept [] w w' := by
  have HP := hide hp
  obtain ⟨ao, len, cap, rfl, h1, h2, h3, h4, h5⟩ := hp
  clear h4 h5
  have HT := hide hT
  have HL := hide hl
  have HR := hide hr
  have hll := hl.1
  have hrl := hr.1
  have hlb := hl.2
  have hrb := hr.2
  clear hT
  obtain ⟨E, hE⟩ : ∃ E, incE z leaf i n p root = E := ⟨_, rfl⟩
  have HE := hide hE
  rw [hE]
  clear hE
  go_enter Tryd.func10, Tryd.ntmps10
  have HGL := hide (((Kept.refl [] (w.alloc (.cells (brow leaf) 23))).alloc (.cells (brow root) 23)).heap (heap_alloc_new w (.cells (brow leaf) 23)) (by simp))
  have HGR := hide (alloc_at w (.cells (brow leaf) 23) (.cells (brow root) 23))
  have HK0 := hide (((Kept.refl [] w).alloc (.cells (brow leaf) 23)).alloc (.cells (brow root) 23))
  have HSL := hide (by rw [List.length_map, hll]; exact Tryd.size_dig : (Tryd.prog.info? 23).map (·.size) = some (leaf.map u8).length)
  have HSM := hide (by rw [List.length_map, hrl]; exact Tryd.size_dig : (Tryd.prog.info? 23).map (·.size) = some (root.map u8).length)
  have hfs : ∀ A : Array Value, (List.foldl (fun cs x => cs.setIfInBounds x.snd x.fst) A (List.map u8 leaf).zipIdx).size = A.size := fun A => fold_size _ A 0
  go_wp2_with (first
    | (refine wpList_load_mid rfl 23 _ rfl w.heap.size 0 rfl (leaf.map u8) _ (range_row (unhide HGL)) Tryd.underlying23 rfl (unhide HSL) ?_)
    | (refine wpList_load_mid rfl 23 _ rfl (w.heap.size + 1) 0 rfl (root.map u8) _ (range_row (unhide HGR)) Tryd.underlying23 rfl (unhide HSM) ?_))
  rw [zb64, two_digs leaf root hll hrl]
  clear hfs
  have k0 := (Kept.refl [] ((w.alloc (.cells (brow leaf) 23)).alloc (.cells (brow root) 23))).alloc (.cells (leaf.map u8 ++ root.map u8).toArray 23)
  refine Calls.mono (mformed_any z _ _ p [leaf, root] _ hz ((unhide HP).old ((unhide HK0).trans k0 (by simp))) (RdD.two (alloc3_at _ _ _ _) hll hrl hlb hrb)) ?_
  rintro e w1 ⟨rfl, k1⟩
  have k01 := k0.trans k1 (by simp)
  have HK1 := hide ((unhide HK0).trans k01 (by simp))
  have HL1 := hide (k01.heap (unhide HGL) (by simp))
  have HR1 := hide (k01.heap (unhide HGR) (by simp))
  clear k0 k1 k01 HGL HGR
  obtain ⟨f, hf⟩ : ∃ f, formedE z ([leaf, root] ++ p) = f := ⟨_, rfl⟩
  have HF := hide (show formedE z (leaf :: root :: p) = f from hf)
  rw [hf]
  clear hf
  by_cases hf0 : f = 0
  · subst hf0
    go_wp2_with (refine wpList_load_mid rfl 23 _ rfl w.heap.size 0 rfl (leaf.map u8) _ (range_row (unhide HL1)) Tryd.underlying23 rfl (unhide HSL) ?_)
    refine Calls.mono (rootOf_any z leaf i n _ p _ hz (unhide HL) hi hn ((unhide HP).old (unhide HK1)) ((unhide HT).k (unhide HK1))) ?_
    rintro e w2 ⟨rfl, k2⟩
    have HDG := hide (rootD_dg (z := z) (i := i) (n := n) (p := p) (unhide HL))
    obtain ⟨D, hD⟩ : ∃ D, rootD z leaf i n p = D := ⟨_, rfl⟩
    obtain ⟨G, hG⟩ : ∃ G, rootE z leaf i n p = G := ⟨_, rfl⟩
    rw [hD] at HDG
    have hdl := (unhide HDG).1
    have HD := hide hD
    have HG := hide hG
    rw [hD, hG]
    clear hD hG
    have HR2 := hide (k2.heap (unhide HR1) (by simp))
    have HK2 := hide ((unhide HK1).trans k2 (by simp))
    clear k2 HL1 HR1
    have HSO := hide (by rw [brow_size, hdl]; exact Tryd.size_dig : (Tryd.prog.info? 23).map (·.size) = some (brow D).size)
    have HSOL := hide (by rw [List.length_map, hdl]; exact Tryd.size_dig : (Tryd.prog.info? 23).map (·.size) = some (D.map u8).length)
    have HNW := hide (setRow_heap (w2.alloc (.cells (zb 32) 23)) w2.heap.size (zb 32) (brow D) 23 (0, 0) (heap_alloc_new _ _))
    have k5 := ((Kept.refl [] w2).alloc (.cells (zb 32) 23)).setRow (g := w2.heap.size) (Or.inr (Nat.le_refl _)) (brow D)
    have HR5 := hide (k5.heap (unhide HR2) (by simp))
    have HK5 := hide ((unhide HK2).trans k5 (by simp))
    clear k5 HR2
    by_cases hg0 : G = 0
    · subst hg0
      have hqd : ∀ W, (Op.equalIn 10000 23 (.agg (D.map u8).toArray) (.agg (root.map u8).toArray)).run Tryd.prog W = .ok (decide (D = root)) W := fun W => dig_eq W D root hdl hrl
      go_wp2_with (first
        | (rw [zb32]; refine wpList_store_row rfl 23 _ _ rfl w2.heap.size (brow D) rfl rfl _ (zb 32) (heap_alloc_new _ _) (unhide HSO) (by rw [zb_size, brow_size, hdl]) (brow_one _) ?_)
        | (refine wpList_load_mid rfl 23 _ rfl w2.heap.size 0 rfl (D.map u8) _ (range_row (unhide HNW)) Tryd.underlying23 rfl (unhide HSOL) ?_)
        | (refine wpList_load_mid rfl 23 _ rfl (w.heap.size + 1) 0 rfl (root.map u8) _ (range_row (unhide HR5)) Tryd.underlying23 rfl (unhide HSM) ?_))
      have HC := hide (by rw [← unhide HE]; unfold incE; rw [if_neg (by rw [unhide HF]; simp), if_neg (by rw [unhide HG]; simp), unhide HD] : E = if D = root then 0 else 10)
      refine Calls.mono (proven_any (decide (D = root)) _) ?_
      rintro e w6 ⟨rfl, rfl⟩
      have HC2 := hide (by rw [unhide HC]; by_cases h9 : D = root; rw [if_pos h9]; simp [prE, h9]; rw [if_neg h9]; simp [prE, h9] : E = prE (decide (D = root)))
      generalize decide (D = root) = B at HC2
      generalize prE B = R at HC2
      go_wp2
      go_ret
      exact ⟨by rw [unhide HC2]; rfl, unhide HK5⟩
    · have hb : ((G : Int) != 0) = true := by simp; omega
      have HC := hide (by rw [← unhide HE]; unfold incE; rw [if_neg (by rw [unhide HF]; simp), if_pos (by rw [unhide HG]; exact hg0), unhide HG] : E = G)
      go_wp2_with (rw [zb32]; refine wpList_store_row rfl 23 _ _ rfl w2.heap.size (brow D) rfl rfl _ (zb 32) (heap_alloc_new _ _) (unhide HSO) (by rw [zb_size, brow_size, hdl]) (brow_one _) ?_)
      go_ret
      exact ⟨by rw [unhide HC]; rfl, unhide HK5⟩
  · have hb : ((f : Int) != 0) = true := by simp; omega
    have HC := hide (by rw [← unhide HE, ← unhide HF]; unfold incE; rw [if_pos (by rw [unhide HF]; exact hf0)] : E = f)
    go_wp2
    go_ret
    exact ⟨by rw [unhide HC]; rfl, unhide HK1⟩
end Go.Proofs.YtbljofojeagdkaaDoor
