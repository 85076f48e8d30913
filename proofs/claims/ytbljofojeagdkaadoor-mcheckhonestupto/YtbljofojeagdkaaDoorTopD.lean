import Derived.Test.YtbljofojeagdkaaDoorTopC
import Derived.Deep.RegionHeld3
namespace Go.Proofs.YtbljofojeagdkaaDoor
open Go.RowKit Go.BigFrame
set_option linter.unusedVariables false
set_option linter.unusedSimpArgs false

theorem own_lit1 (w : World) (l : List Nat) (hl : l.length = 32) : (w.alloc (.cells (brow l) 23)).ownsRow w.heap.size 23 32 (.slice (some ⟨w.heap.size, 0, none⟩) 1 1) ([l] : List (List Nat)).length (flatD [l]) := by
  have h := World.ownsRow_lit (base := w.heap.size) (e := 23) (size := 32) w (brow l) 1 (Nat.le_refl _) (by unfold maxLen; omega) (by rw [brow_size, hl])
  have e : (brow l).toList = flatD [l] := by simp [flatD, brow]
  rw [e] at h
  exact h

set_option maxRecDepth 100000 in
set_option maxHeartbeats 2000000 in
theorem docRootOf_any (z : Int) (leaf : List Nat) (i n : Nat) (pv : Value) (p : List (List Nat)) (w : World) (hz : -9223372036854775808 ≤ z ∧ z ≤ 9223372036854775807) (hl : Dg leaf) (hi : i < 18446744073709551616) (hn : n < 18446744073709551616) (hp : RdD w pv p) (hpl : p.length ≤ 1048576) :
    Calls Tryd.prog 9 #[.int .i64 z, .agg (brow leaf), .int .u64 i, .int .u64 n, pv] w fun e w' => e = .returned (.tuple #[.agg (brow (rootD z leaf i n p)), .int .i64 (rootE z leaf i n p)]) ∧ Kept [] w w' := by
  have HP := hide hp
  obtain ⟨ao, len, cap, rfl, h1, h2, h3, h4, h5⟩ := hp
  clear h4 h5
  subst h1
  have HL := hide hl
  have hll := hl.1
  have hDl : (rootD z leaf i n p).length = 32 := (rootD_dg hl).1
  obtain ⟨D, hD⟩ : ∃ D, rootD z leaf i n p = D := ⟨_, rfl⟩
  obtain ⟨E, hE⟩ : ∃ E, rootE z leaf i n p = E := ⟨_, rfl⟩
  have HD := hide hD
  have HE := hide hE
  rw [hD] at hDl
  rw [hD, hE]
  clear hD hE
  go_enter Tryd.func9, Tryd.ntmps9
  have HGL := hide (((Kept.refl [] (w.alloc (.cells (brow leaf) 23))).alloc (.cells (zb 32) 23)).heap (heap_alloc_new w (.cells (brow leaf) 23)) (by simp))
  have HGZ := hide (alloc_at w (.cells (brow leaf) 23) (.cells (zb 32) 23))
  have HK0 := hide (((Kept.refl [] w).alloc (.cells (brow leaf) 23)).alloc (.cells (zb 32) 23))
  obtain ⟨W0, hW0⟩ : ∃ W0, (w.alloc (.cells (brow leaf) 23)).alloc (.cells (zb 32) 23) = W0 := ⟨_, rfl⟩
  have hsz : w.heap.size + 1 + 1 = W0.heap.size := by rw [← hW0]; simp
  have HLIT := hide (by have := own_lit1 W0 leaf hll; rwa [← hsz, ← hW0] at this : (((w.alloc (.cells (brow leaf) 23)).alloc (.cells (zb 32) 23)).alloc (.cells (brow leaf) 23)).ownsRow (w.heap.size + 1 + 1) 23 32 (.slice (some ⟨w.heap.size + 1 + 1, 0, none⟩) 1 1) ([leaf] : List (List Nat)).length (flatD [leaf]))
  clear hW0 hsz W0
  have k0 := (Kept.refl [] ((w.alloc (.cells (brow leaf) 23)).alloc (.cells (zb 32) 23))).alloc (.cells (brow leaf) 23)
  have HK00 := hide k0
  have HP0 := hide ((unhide HP).old ((unhide HK0).trans k0 (by simp)))
  clear k0
  go_wp2_with (first
    | (refine wpList_load_mid rfl 23 _ rfl w.heap.size 0 rfl (leaf.map u8) _ (range_row (unhide HGL)) Tryd.underlying23 rfl (by rw [List.length_map, hll]; exact Tryd.size_dig) ?_)
    | (at_builtin; rw [zb32, one_dig leaf hll]; refine wpList_appendD rfl (.tmp 17) (.tmp 18) rfl rfl _ (w.heap.size + 1 + 1) (.slice (some ⟨w.heap.size + 1 + 1, 0, none⟩) 1 1) [leaf] p ao p.length cap (by exact unhide HLIT) (by exact unhide HP0) (by simp; omega) (by simp) rfl rfl ?_; intro ao1 cap1 w1 HO1 HG1; have HKG := hide ((unhide HK00).grown (unhide HG1) (by intro k hk; right; simp [Value.ownBlock] at hk; subst hk; simp)); clear HG1))
  have HR1 := hide (rdd_owns (unhide HO1) (fun d hd => by rcases List.mem_append.1 hd with h | h; simp at h; subst h; exact unhide HL; exact (unhide HP).dg h))
  have HK1' := hide ((unhide HK0).trans (unhide HKG) (by simp))
  have HL1' := hide ((unhide HKG).heap (unhide HGL) (by simp))
  have HZ1' := hide ((unhide HKG).heap (unhide HGZ) (by simp))
  clear HGL HGZ HO1 HKG HLIT HK00 HP0
  refine Calls.mono (refCheck_any z _ ([leaf] ++ p) _ hz (unhide HR1)) ?_
  rintro e w2 ⟨rfl, k2⟩
  have HK1 := hide ((unhide HK1').trans k2 (by simp))
  have HL1 := hide (k2.heap (unhide HL1') (by simp))
  have HZ1 := hide (k2.heap (unhide HZ1') (by simp))
  clear k2 HK1' HL1' HZ1' HR1
  obtain ⟨f, hf⟩ : ∃ f, formedE z ([leaf] ++ p) = f := ⟨_, rfl⟩
  have HF := hide (show formedE z (leaf :: p) = f from hf)
  rw [hf]
  clear hf
  by_cases hf0 : f = 0
  · subst hf0
    obtain ⟨hw, hff⟩ := formedE_zero (unhide HF)
    by_cases hr : n ≤ i
    · have hr' : (n : Int) ≤ i := by omega
      have HC := hide (by rw [← unhide HE, ← unhide HD]; exact rootE_r (unhide HF) hr : E = 4 ∧ D = zD)
      go_wp2_with (rw [zb32]; refine wpList_store_row rfl 23 _ _ rfl (w.heap.size + 1) (zb 32) rfl rfl _ (zb 32) (unhide HZ1) (by rw [zb_size]; exact Tryd.size_dig) rfl (brow_one _) ?_)
      rw [(unhide HC).1, (unhide HC).2]
      refine bodyPost_ret (v := .tuple #[.agg (zb 32), .int .i64 4]) ?_ rfl ⟨rfl, (unhide HK1).setRow (Or.inr (by omega)) _⟩
      exact results_cell_tmp rfl _ _ (w.heap.size + 1) _ (zb 32) (0, 0) _ rfl (setRow_heap _ _ _ _ _ _ (unhide HZ1)) Tryd.underlying23 rfl (by rw [zb_size]; exact Tryd.size_dig) _ rfl
    · have hr' : ¬ (n : Int) ≤ i := by omega
      have hwd : 1 ≤ z ∧ z ≤ 32 := by simpa [widthB] using hw
      obtain ⟨k, rfl⟩ : ∃ k : Nat, z = k := ⟨z.toNat, by omega⟩
      have HC := hide (by rw [← unhide HE, ← unhide HD]; exact rootE_c (unhide HF) hr : E = opE (clD k leaf p.reverse i n) ∧ D = opD (clD k leaf p.reverse i n))
      go_wp2_with (refine wpList_load_mid rfl 23 _ rfl w.heap.size 0 rfl (leaf.map u8) _ (range_row (unhide HL1)) Tryd.underlying23 rfl (by rw [List.length_map, hll]; exact Tryd.size_dig) ?_)
      refine Calls.mono (rpath_any k leaf ⟨by omega, by omega⟩ (unhide HL) p.reverse i n _ _ (by omega) hn (by rw [List.reverse_reverse]; exact (unhide HP).old (unhide HK1))) ?_
      rintro e w3 ⟨d3, rfl, g3, q3, k3⟩
      generalize clD k leaf p.reverse i n = O at HC q3
      have HQ := hide q3
      have HD3 := hide g3
      have hol := g3.1
      have HZ3 := hide (k3.heap (unhide HZ1) (by simp))
      have HK3 := hide ((unhide HK1).trans k3 (by simp))
      clear g3 q3 k3 HZ1 HL1
      have HSO := hide (by rw [brow_size, hol]; exact Tryd.size_dig : (Tryd.prog.info? 23).map (·.size) = some (brow d3).size)
      have HSOL := hide (by rw [List.length_map, hol]; exact Tryd.size_dig : (Tryd.prog.info? 23).map (·.size) = some (d3.map u8).length)
      have HNW := hide (setRow_heap (w3.alloc (.cells (zb 32) 23)) w3.heap.size (zb 32) (brow d3) 23 (0, 0) (heap_alloc_new _ _))
      have k5 := ((Kept.refl [] w3).alloc (.cells (zb 32) 23)).setRow (g := w3.heap.size) (Or.inr (Nat.le_refl _)) (brow d3)
      have HZ5 := hide (k5.heap (unhide HZ3) (by simp))
      have HK5 := hide ((unhide HK3).trans k5 (by simp))
      clear k5 HZ3
      cases O with
      | some d0 =>
        have HQ2 := hide (unhide HQ d0 rfl)
        have HE2 := hide (by rw [(unhide HC).1]; rfl : E = 0)
        have HD2 := hide (by rw [(unhide HC).2, unhide HQ2]; rfl : D = d3)
        go_wp2_with (first
          | (rw [zb32]; refine wpList_store_row rfl 23 _ _ rfl w3.heap.size (brow d3) rfl rfl _ (zb 32) (heap_alloc_new _ _) (unhide HSO) (by rw [zb_size, brow_size, hol]) (brow_one _) ?_)
          | (refine wpList_load_mid rfl 23 _ rfl w3.heap.size 0 rfl (d3.map u8) _ (range_row (unhide HNW)) Tryd.underlying23 rfl (unhide HSOL) ?_)
          | (refine wpList_store_row rfl 23 _ _ rfl (w.heap.size + 1) (brow d3) rfl rfl _ (zb 32) (unhide HZ5) (unhide HSO) (by rw [zb_size, brow_size, hol]) (brow_one _) ?_))
        rw [unhide HE2, unhide HD2]
        refine bodyPost_ret (v := .tuple #[.agg (brow d3), .int .i64 0]) ?_ rfl ⟨rfl, (unhide HK5).setRow (Or.inr (by omega)) _⟩
        exact results_cell_tmp rfl _ _ (w.heap.size + 1) _ (brow d3) (0, 0) _ rfl (setRow_heap _ _ _ _ _ _ (unhide HZ5)) Tryd.underlying23 rfl (unhide HSO) _ rfl
      | none =>
        have HE2 := hide (by rw [(unhide HC).1]; rfl : E = 10)
        have HD2 := hide (by rw [(unhide HC).2]; rfl : D = zD)
        go_wp2_with (first
          | (rw [zb32]; refine wpList_store_row rfl 23 _ _ rfl w3.heap.size (brow d3) rfl rfl _ (zb 32) (heap_alloc_new _ _) (unhide HSO) (by rw [zb_size, brow_size, hol]) (brow_one _) ?_)
          | (rw [zb32]; refine wpList_store_row rfl 23 _ _ rfl (w.heap.size + 1) (zb 32) rfl rfl _ (zb 32) (unhide HZ5) (by rw [zb_size]; exact Tryd.size_dig) rfl (brow_one _) ?_))
        rw [unhide HE2, unhide HD2]
        refine bodyPost_ret (v := .tuple #[.agg (zb 32), .int .i64 10]) ?_ rfl ⟨rfl, (unhide HK5).setRow (Or.inr (by omega)) _⟩
        exact results_cell_tmp rfl _ _ (w.heap.size + 1) _ (zb 32) (0, 0) _ rfl (setRow_heap _ _ _ _ _ _ (unhide HZ5)) Tryd.underlying23 rfl (by rw [zb_size]; exact Tryd.size_dig) _ rfl
  · have hb : ((f : Int) != 0) = true := by simp; omega
    have hb2 : ((f : Int) == 0) = false := by simp; omega
    have HC := hide (by rw [← unhide HE, ← unhide HD, ← unhide HF]; exact rootE_f (by rw [unhide HF]; exact hf0) : E = f ∧ D = zD)
    go_wp2_with (rw [zb32]; refine wpList_store_row rfl 23 _ _ rfl (w.heap.size + 1) (zb 32) rfl rfl _ (zb 32) (unhide HZ1) (by rw [zb_size]; exact Tryd.size_dig) rfl (brow_one _) ?_)
    rw [(unhide HC).1, (unhide HC).2]
    refine bodyPost_ret (v := .tuple #[.agg (zb 32), .int .i64 f]) ?_ rfl ⟨rfl, (unhide HK1).setRow (Or.inr (by omega)) _⟩
    exact results_cell_tmp rfl _ _ (w.heap.size + 1) _ (zb 32) (0, 0) _ rfl (setRow_heap _ _ _ _ _ _ (unhide HZ1)) Tryd.underlying23 rfl (by rw [zb_size]; exact Tryd.size_dig) _ rfl
end Go.Proofs.YtbljofojeagdkaaDoor
namespace Go.Proofs.YtbljofojeagdkaaDoor
open Go.RowKit Go.BigFrame
set_option linter.unusedVariables false
set_option linter.unusedSimpArgs false

def prE (b : Bool) : Nat := if b then 0 else 10

set_option maxRecDepth 100000 in
set_option maxHeartbeats 1000000 in
theorem proven_any (b : Bool) (w : World) :
    Calls Tryd.prog 29 #[.bool b] w fun e w' => e = .returned (.int .i64 (prE b)) ∧ w' = w := by
  go_enter Tryd.func29, Tryd.ntmps29
  cases b with
  | true =>
    go_wp2
    go_ret
    exact ⟨rfl, rfl⟩
  | false =>
    go_wp2
    go_ret
    exact ⟨rfl, rfl⟩

set_option maxRecDepth 100000 in
set_option maxHeartbeats 2000000 in
theorem inclusion_any (z : Int) (leaf : List Nat) (i n : Nat) (pv : Value) (p : List (List Nat)) (root : List Nat) (w : World) (hz : -9223372036854775808 ≤ z ∧ z ≤ 9223372036854775807) (hl : Dg leaf) (hr : Dg root) (hi : i < 18446744073709551616) (hn : n < 18446744073709551616) (hp : RdD w pv p) (hT : Tabs w) :
    Calls Tryd.prog 10 #[.int .i64 z, .agg (brow leaf), .int .u64 i, .int .u64 n, pv, .agg (brow root)] w fun e w' => e = .returned (.int .i64 (incE z leaf i n p root)) ∧ Kept [] w w' := by
  have HP := hide hp
  obtain ⟨ao, len, cap, rfl, h1, h2, h3, h4, h5⟩ := hp
  clear h4 h5
  have HT := hide hT
  have HL := hide hl
  have HR := hide hr
  have hll := hl.1
  have hrl := hr.1
  have hlb := hl.2
  have hrb := hr.2
  clear hT
  obtain ⟨E, hE⟩ : ∃ E, incE z leaf i n p root = E := ⟨_, rfl⟩
  have HE := hide hE
  rw [hE]
  clear hE
  go_enter Tryd.func10, Tryd.ntmps10
  have HGL := hide (((Kept.refl [] (w.alloc (.cells (brow leaf) 23))).alloc (.cells (brow root) 23)).heap (heap_alloc_new w (.cells (brow leaf) 23)) (by simp))
  have HGR := hide (alloc_at w (.cells (brow leaf) 23) (.cells (brow root) 23))
  have HK0 := hide (((Kept.refl [] w).alloc (.cells (brow leaf) 23)).alloc (.cells (brow root) 23))
  have HSL := hide (by rw [List.length_map, hll]; exact Tryd.size_dig : (Tryd.prog.info? 23).map (·.size) = some (leaf.map u8).length)
  have HSM := hide (by rw [List.length_map, hrl]; exact Tryd.size_dig : (Tryd.prog.info? 23).map (·.size) = some (root.map u8).length)
  have hfs : ∀ A : Array Value, (List.foldl (fun cs x => cs.setIfInBounds x.snd x.fst) A (List.map u8 leaf).zipIdx).size = A.size := fun A => fold_size _ A 0
  go_wp2_with (first
    | (refine wpList_load_mid rfl 23 _ rfl w.heap.size 0 rfl (leaf.map u8) _ (range_row (unhide HGL)) Tryd.underlying23 rfl (unhide HSL) ?_)
    | (refine wpList_load_mid rfl 23 _ rfl (w.heap.size + 1) 0 rfl (root.map u8) _ (range_row (unhide HGR)) Tryd.underlying23 rfl (unhide HSM) ?_))
  rw [zb64, two_digs leaf root hll hrl]
  clear hfs
  have k0 := (Kept.refl [] ((w.alloc (.cells (brow leaf) 23)).alloc (.cells (brow root) 23))).alloc (.cells (leaf.map u8 ++ root.map u8).toArray 23)
  refine Calls.mono (mformed_any z _ _ p [leaf, root] _ hz ((unhide HP).old ((unhide HK0).trans k0 (by simp))) (RdD.two (alloc3_at _ _ _ _) hll hrl hlb hrb)) ?_
  rintro e w1 ⟨rfl, k1⟩
  have k01 := k0.trans k1 (by simp)
  have HK1 := hide ((unhide HK0).trans k01 (by simp))
  have HL1 := hide (k01.heap (unhide HGL) (by simp))
  have HR1 := hide (k01.heap (unhide HGR) (by simp))
  clear k0 k1 k01 HGL HGR
  obtain ⟨f, hf⟩ : ∃ f, formedE z ([leaf, root] ++ p) = f := ⟨_, rfl⟩
  have HF := hide (show formedE z (leaf :: root :: p) = f from hf)
  rw [hf]
  clear hf
  by_cases hf0 : f = 0
  · subst hf0
    go_wp2_with (refine wpList_load_mid rfl 23 _ rfl w.heap.size 0 rfl (leaf.map u8) _ (range_row (unhide HL1)) Tryd.underlying23 rfl (unhide HSL) ?_)
    refine Calls.mono (rootOf_any z leaf i n _ p _ hz (unhide HL) hi hn ((unhide HP).old (unhide HK1)) ((unhide HT).k (unhide HK1))) ?_
    rintro e w2 ⟨rfl, k2⟩
    have HDG := hide (rootD_dg (z := z) (i := i) (n := n) (p := p) (unhide HL))
    obtain ⟨D, hD⟩ : ∃ D, rootD z leaf i n p = D := ⟨_, rfl⟩
    obtain ⟨G, hG⟩ : ∃ G, rootE z leaf i n p = G := ⟨_, rfl⟩
    rw [hD] at HDG
    have hdl := (unhide HDG).1
    have HD := hide hD
    have HG := hide hG
    rw [hD, hG]
    clear hD hG
    have HR2 := hide (k2.heap (unhide HR1) (by simp))
    have HK2 := hide ((unhide HK1).trans k2 (by simp))
    clear k2 HL1 HR1
    have HSO := hide (by rw [brow_size, hdl]; exact Tryd.size_dig : (Tryd.prog.info? 23).map (·.size) = some (brow D).size)
    have HSOL := hide (by rw [List.length_map, hdl]; exact Tryd.size_dig : (Tryd.prog.info? 23).map (·.size) = some (D.map u8).length)
    have HNW := hide (setRow_heap (w2.alloc (.cells (zb 32) 23)) w2.heap.size (zb 32) (brow D) 23 (0, 0) (heap_alloc_new _ _))
    have k5 := ((Kept.refl [] w2).alloc (.cells (zb 32) 23)).setRow (g := w2.heap.size) (Or.inr (Nat.le_refl _)) (brow D)
    have HR5 := hide (k5.heap (unhide HR2) (by simp))
    have HK5 := hide ((unhide HK2).trans k5 (by simp))
    clear k5 HR2
    by_cases hg0 : G = 0
    · subst hg0
      have hqd : ∀ W, (Op.equalIn 10000 23 (.agg (D.map u8).toArray) (.agg (root.map u8).toArray)).run Tryd.prog W = .ok (decide (D = root)) W := fun W => dig_eq W D root hdl hrl
      go_wp2_with (first
        | (rw [zb32]; refine wpList_store_row rfl 23 _ _ rfl w2.heap.size (brow D) rfl rfl _ (zb 32) (heap_alloc_new _ _) (unhide HSO) (by rw [zb_size, brow_size, hdl]) (brow_one _) ?_)
        | (refine wpList_load_mid rfl 23 _ rfl w2.heap.size 0 rfl (D.map u8) _ (range_row (unhide HNW)) Tryd.underlying23 rfl (unhide HSOL) ?_)
        | (refine wpList_load_mid rfl 23 _ rfl (w.heap.size + 1) 0 rfl (root.map u8) _ (range_row (unhide HR5)) Tryd.underlying23 rfl (unhide HSM) ?_))
      have HC := hide (by rw [← unhide HE]; unfold incE; rw [if_neg (by rw [unhide HF]; simp), if_neg (by rw [unhide HG]; simp), unhide HD] : E = if D = root then 0 else 10)
      refine Calls.mono (proven_any (decide (D = root)) _) ?_
      rintro e w6 ⟨rfl, rfl⟩
      have HC2 := hide (by rw [unhide HC]; by_cases h9 : D = root; rw [if_pos h9]; simp [prE, h9]; rw [if_neg h9]; simp [prE, h9] : E = prE (decide (D = root)))
      generalize decide (D = root) = B at HC2
      generalize prE B = R at HC2
      go_wp2
      go_ret
      exact ⟨by rw [unhide HC2]; rfl, unhide HK5⟩
    · have hb : ((G : Int) != 0) = true := by simp; omega
      have HC := hide (by rw [← unhide HE]; unfold incE; rw [if_neg (by rw [unhide HF]; simp), if_pos (by rw [unhide HG]; exact hg0), unhide HG] : E = G)
      go_wp2_with (rw [zb32]; refine wpList_store_row rfl 23 _ _ rfl w2.heap.size (brow D) rfl rfl _ (zb 32) (heap_alloc_new _ _) (unhide HSO) (by rw [zb_size, brow_size, hdl]) (brow_one _) ?_)
      go_ret
      exact ⟨by rw [unhide HC]; rfl, unhide HK5⟩
  · have hb : ((f : Int) != 0) = true := by simp; omega
    have HC := hide (by rw [← unhide HE, ← unhide HF]; unfold incE; rw [if_pos (by rw [unhide HF]; exact hf0)] : E = f)
    go_wp2
    go_ret
    exact ⟨by rw [unhide HC]; rfl, unhide HK1⟩
end Go.Proofs.YtbljofojeagdkaaDoor
namespace Go.Proofs.YtbljofojeagdkaaDoor
open Go.RowKit Go.BigFrame
set_option linter.unusedVariables false
set_option linter.unusedSimpArgs false

theorem Tryd.size_roots : (Tryd.prog.info? 65).map (·.size) = some 64 := by kernel_rfl
/-- A pair of roots. -/
def pw (d : List Nat × List Nat) : Array Value := (d.1.map u8 ++ d.2.map u8).toArray
def opP (o : Option (List Nat × List Nat)) : List Nat × List Nat := o.getD (zD, zD)
def opF (o : Option (List Nat × List Nat)) : Nat := if o.isSome then 0 else 10

theorem foldl_set (vs : List Value) : ∀ (pre mid post : List Value) (k : Nat), mid.length = vs.length → ((vs.zipIdx k).foldl (fun cs (p : Value × Nat) => cs.setIfInBounds (pre.length + p.2 - k) p.1) (pre ++ (mid ++ post)).toArray) = (pre ++ (vs ++ post)).toArray := by
  induction vs with
  | nil => intro pre mid post k h; have : mid = [] := List.eq_nil_of_length_eq_zero (by simpa using h); subst this; rfl
  | cons v r ih =>
    intro pre mid post k h
    obtain ⟨x, mid, rfl⟩ : ∃ x q, mid = x :: q := by cases mid with | nil => simp at h | cons x q => exact ⟨x, q, rfl⟩
    rw [List.zipIdx_cons, List.foldl_cons]
    have e1 : (pre ++ (x :: mid ++ post)).toArray.setIfInBounds (pre.length + k - k) v = ((pre ++ [v]) ++ (mid ++ post)).toArray := by rw [Nat.add_sub_cancel]; simp
    have h2 := ih (pre ++ [v]) mid post (k + 1) (by simpa using h)
    simp only [e1]
    rw [List.length_append, List.length_cons, List.length_nil] at h2
    have e2 : (fun (cs : Array Value) (p : Value × Nat) => cs.setIfInBounds (pre.length + p.2 - k) p.1) = fun cs p => cs.setIfInBounds (pre.length + (0 + 1) + p.2 - (k + 1)) p.1 := by funext cs p; congr 1; omega
    rw [e2, h2]; simp
theorem pw_size {d : List Nat × List Nat} (h1 : d.1.length = 32) (h2 : d.2.length = 32) : (pw d).size = 64 := by simp [pw, h1, h2]
theorem pw_one (d : List Nat × List Nat) : (pw d).all (·.oneCell') = true := by
  rw [Array.all_eq_true_iff_forall_mem]
  intro v hv
  simp [pw] at hv
  rcases hv with ⟨x, _, rfl⟩ | ⟨x, _, rfl⟩ <;> rfl
set_option maxRecDepth 100000 in
theorem Tryd.size_pz : (Tryd.prog.info? 65).map (·.size) = some (pw (zD, zD)).size := by rw [pw_size rfl rfl]; exact Tryd.size_roots
set_option maxRecDepth 100000 in
theorem built_pair (l m : List Nat) (hl : l.length = 32) (hm : m.length = 32) : Tryd.prog.built 65 [(0, .agg (l.map u8).toArray), (1, .agg (m.map u8).toArray)] = some (pw (l, m)) := by
  have hi : (Tryd.prog.info? 65).isSome = true := by kernel_rfl
  obtain ⟨it, hit⟩ := Option.isSome_iff_exists.1 hi
  have hz : (Tryd.prog.info? 65).bind (·.zero) = some (.agg (pw (zD, zD))) := by kernel_rfl
  rw [hit, Option.bind_some] at hz
  have hpl : ∀ fs, Tryd.prog.underlying 65 = some (.struct fs) → fs.toList.mapM (fun f => (Tryd.prog.info? f.type).map fun i => (f.offset, i.size)) = some [(0, 32), (32, 32)] := by
    intro fs hfs
    rw [Tryd.underlying65] at hfs
    injection hfs with hfs
    injection hfs with hfs
    subst hfs
    kernel_rfl
  have hex : ∃ fs, Tryd.prog.underlying 65 = some (.struct fs) := ⟨_, Tryd.underlying65⟩
  obtain ⟨fs, hfs⟩ := hex
  have hpl := hpl fs hfs
  unfold Program.built
  rw [hit, hfs]
  simp only [hz, hpl]
  have z1 : zD.length = 32 := zD_dg.1
  have f2 := foldl_set (l.map u8) [] (zD.map u8) (zD.map u8) 0 (by simp [hl, z1])
  have f3 := foldl_set (m.map u8) (l.map u8) (zD.map u8) [] 0 (by simp [hm, z1])
  simp [Instr.fill, Value.cells, pw, hl, hm, z1] at f2 f3 ⊢
  rw [f2]
  exact ⟨by simp [hl, z1], f3⟩

set_option maxRecDepth 100000 in
set_option maxHeartbeats 1000000 in
theorem lowest_any (old : List Nat) (b : Bool) (pv : Value) (p : List (List Nat)) (w : World) (ho : Dg old) (hp : RdD w pv p) (z : Int) (n : Nat) :
    Calls Tryd.prog 51 #[.agg (brow old), .bool b, pv] w fun e w' => e = .returned (.tuple #[.agg (pw (opP (twD z old p.reverse n n b))), .int .i64 (opF (twD z old p.reverse n n b))]) ∧ Kept [] w w' := by
  have HP := hide hp
  obtain ⟨ao, len, cap, rfl, h1, h2, h3, h4, h5⟩ := hp
  subst h1
  have H5 := hide h5
  clear h4 h5
  have HO := hide ho
  have hol := ho.1
  obtain ⟨F, hF⟩ : ∃ F, twD z old p.reverse n n b = F := ⟨_, rfl⟩
  have HF := hide hF
  rw [hF]
  clear hF
  go_enter Tryd.func51, Tryd.ntmps51
  have HGL := hide (((Kept.refl [] (w.alloc (.cells (brow old) 23))).alloc (.cells (zb 64) 65)).heap (heap_alloc_new w (.cells (brow old) 23)) (by simp))
  have HGZ := hide (alloc_at w (.cells (brow old) 23) (.cells (zb 64) 65))
  have HK0 := hide (((Kept.refl [] w).alloc (.cells (brow old) 23)).alloc (.cells (zb 64) 65))
  match p, HP, H5, HF, h2 with
  | [], HP, H5, HF, h2 =>
    clear H5
    simp only [List.length_nil] at *
    cases b with
    | true =>
      have HC := hide (by rw [← unhide HF]; simp [twD] : F = some (old, old))
      go_wp2_with (first
        | (refine wpList_load_mid rfl 23 _ rfl w.heap.size 0 rfl (old.map u8) _ (range_row (unhide HGL)) Tryd.underlying23 rfl (by rw [List.length_map, hol]; exact Tryd.size_dig) ?_)
        | (refine wpList_build_as rfl 65 _ rfl (pw (old, old)) (by simp only [List.map_toArray, List.map_cons, List.map_nil]; exact built_pair old old hol hol) ?_)
        | (rw [zb64]; refine wpList_store_row rfl 65 _ _ rfl (w.heap.size + 1) (pw (old, old)) rfl rfl _ (zb 64) (unhide HGZ) (by rw [pw_size hol hol]; exact Tryd.size_roots) (by rw [zb_size, pw_size hol hol]) (pw_one _) ?_))
      rw [unhide HC]
      refine bodyPost_ret (v := .tuple #[.agg (pw (old, old)), .int .i64 0]) ?_ rfl ⟨rfl, (unhide HK0).setRow (Or.inr (by omega)) _⟩
      exact results_cell_tmp rfl _ _ (w.heap.size + 1) _ (pw (old, old)) (0, 0) _ rfl (setRow_heap _ _ _ _ _ _ (unhide HGZ)) Tryd.underlying65 rfl (by rw [pw_size hol hol]; exact Tryd.size_roots) _ rfl
    | false =>
      have HC := hide (by rw [← unhide HF]; simp [twD] : F = none)
      go_wp2_with (first
        | (refine wpList_build_as rfl 65 #[] rfl (pw (zD, zD)) (by kernel_rfl) ?_)
        | (rw [zb64]; refine wpList_store_row rfl 65 _ _ rfl (w.heap.size + 1) (pw (zD, zD)) rfl rfl _ (zb 64) (unhide HGZ) Tryd.size_pz (by rw [zb_size, pw_size rfl rfl]) (pw_one _) ?_))
      rw [unhide HC]
      refine bodyPost_ret (v := .tuple #[.agg (pw (zD, zD)), .int .i64 10]) ?_ rfl ⟨rfl, (unhide HK0).setRow (Or.inr (by omega)) _⟩
      exact results_cell_tmp rfl _ _ (w.heap.size + 1) _ (pw (zD, zD)) (0, 0) _ rfl (setRow_heap _ _ _ _ _ _ (unhide HGZ)) Tryd.underlying65 rfl Tryd.size_pz _ rfl
  | [x], HP, H5, HF, h2 =>
    have hx := (unhide HP).dg (show x ∈ [x] by simp)
    have hxl := hx.1
    obtain ⟨b0, off, rfl, hc⟩ := unhide H5 (by simp)
    have HRG := hide (range_kept (by simpa using hc 0 (by simp) : w.rangeAt b0 off (x.map u8)) (unhide HK0) (by simp))
    clear H5 hc hx
    simp only [List.length_cons, List.length_nil, Nat.zero_add] at *
    cases b with
    | true =>
      have HC := hide (by rw [← unhide HF]; simp [twD] : F = none)
      go_wp2_with (first
        | (refine wpList_build_as rfl 65 #[] rfl (pw (zD, zD)) (by kernel_rfl) ?_)
        | (rw [zb64]; refine wpList_store_row rfl 65 _ _ rfl (w.heap.size + 1) (pw (zD, zD)) rfl rfl _ (zb 64) (unhide HGZ) Tryd.size_pz (by rw [zb_size, pw_size rfl rfl]) (pw_one _) ?_))
      rw [unhide HC]
      refine bodyPost_ret (v := .tuple #[.agg (pw (zD, zD)), .int .i64 10]) ?_ rfl ⟨rfl, (unhide HK0).setRow (Or.inr (by omega)) _⟩
      exact results_cell_tmp rfl _ _ (w.heap.size + 1) _ (pw (zD, zD)) (0, 0) _ rfl (setRow_heap _ _ _ _ _ _ (unhide HGZ)) Tryd.underlying65 rfl Tryd.size_pz _ rfl
    | false =>
      have HC := hide (by rw [← unhide HF]; simp [twD] : F = some (x, x))
      go_wp2_with fail
      rw [zb64]
      obtain ⟨W, hW⟩ : ∃ W, (w.alloc (.cells (brow old) 23)).alloc (.cells (zb 64) 65) = W := ⟨_, rfl⟩
      rw [hW] at HGZ HK0 HRG ⊢
      have HSX := hide (by rw [List.length_map, hxl]; exact Tryd.size_dig : (Tryd.prog.info? 23).map (·.size) = some (x.map u8).length)
      refine wp_quiet_tail 6 (by kernel_rfl) (by kernel_rfl) ?_
      simp only [List.take_succ_cons, List.take_zero, List.drop_succ_cons, List.drop_zero]
      repeat (go_big_quiet_step (fail))
      refine wpQuiet_mid rfl 23 _ rfl b0 off rfl (x.map u8) _ (fun w' hw' => by obtain ⟨n, rfl⟩ := hw'; exact unhide HRG) Tryd.underlying23 rfl (unhide HSX) ?_
      simp only [Act.put, List.setIfInBounds_toArray, List.set_cons_succ, List.set_cons_zero]
      repeat (go_big_quiet_step (fail))
      refine wpQuiet_mid rfl 23 _ rfl b0 off rfl (x.map u8) _ (fun w' hw' => by obtain ⟨n, rfl⟩ := hw'; exact unhide HRG) Tryd.underlying23 rfl (unhide HSX) ?_
      simp only [Act.put, List.setIfInBounds_toArray, List.set_cons_succ, List.set_cons_zero]
      refine wpQuiet_nil ?_
      rintro _ ⟨n1, rfl⟩
      go_wp2_with (first
        | (refine wpList_build_as rfl 65 _ rfl (pw (x, x)) (by simp only [List.map_toArray, List.map_cons, List.map_nil]; exact built_pair x x hxl hxl) ?_)
        | (refine wpList_store_row rfl 65 _ _ rfl (w.heap.size + 1) (pw (x, x)) rfl rfl _ (zb 64) (unhide HGZ) (by rw [pw_size hxl hxl]; exact Tryd.size_roots) (by rw [zb_size, pw_size hxl hxl]) (pw_one _) ?_))
      rw [unhide HC]
      refine bodyPost_ret (v := .tuple #[.agg (pw (x, x)), .int .i64 0]) ?_ rfl ⟨rfl, ((unhide HK0).drewN n1).setRow (Or.inr (by omega)) _⟩
      exact results_cell_tmp rfl _ ((W.drewN n1).setRow (w.heap.size + 1) (pw (x, x))) (w.heap.size + 1) _ (pw (x, x)) (0, 0) _ (by rfl) (setRow_heap (W.drewN n1) _ _ _ _ _ (unhide HGZ)) Tryd.underlying65 rfl (by rw [pw_size hxl hxl]; exact Tryd.size_roots) _ rfl
  | x :: y :: r, HP, H5, HF, h2 =>
    clear H5
    have hn0 : (((r.length + 1 + 1 : Nat) : Int) == 0) = false := by simp; omega
    have hn1 : (((r.length + 1 + 1 : Nat) : Int) == 1) = false := by simp; omega
    simp only [List.length_cons] at *
    have HC := hide (by
      rw [← unhide HF]
      obtain ⟨u, v, hu⟩ : ∃ u v, (x :: y :: r).reverse = u :: v := by
        cases h9 : (x :: y :: r).reverse with
        | nil => simp at h9
        | cons u v => exact ⟨u, v, rfl⟩
      have hv : v ≠ [] := by
        intro h
        have := congrArg List.length hu
        rw [h] at this
        simp at this
      rw [hu]
      simp [twD, hv] : F = none)
    cases b with
    | true =>
      go_wp2_with (first
        | (refine wpList_build_as rfl 65 #[] rfl (pw (zD, zD)) (by kernel_rfl) ?_)
        | (rw [zb64]; refine wpList_store_row rfl 65 _ _ rfl (w.heap.size + 1) (pw (zD, zD)) rfl rfl _ (zb 64) (unhide HGZ) Tryd.size_pz (by rw [zb_size, pw_size rfl rfl]) (pw_one _) ?_))
      rw [unhide HC]
      refine bodyPost_ret (v := .tuple #[.agg (pw (zD, zD)), .int .i64 10]) ?_ rfl ⟨rfl, (unhide HK0).setRow (Or.inr (by omega)) _⟩
      exact results_cell_tmp rfl _ _ (w.heap.size + 1) _ (pw (zD, zD)) (0, 0) _ rfl (setRow_heap _ _ _ _ _ _ (unhide HGZ)) Tryd.underlying65 rfl Tryd.size_pz _ rfl
    | false =>
      go_wp2_with (first
        | (refine wpList_build_as rfl 65 #[] rfl (pw (zD, zD)) (by kernel_rfl) ?_)
        | (rw [zb64]; refine wpList_store_row rfl 65 _ _ rfl (w.heap.size + 1) (pw (zD, zD)) rfl rfl _ (zb 64) (unhide HGZ) Tryd.size_pz (by rw [zb_size, pw_size rfl rfl]) (pw_one _) ?_))
      rw [unhide HC]
      refine bodyPost_ret (v := .tuple #[.agg (pw (zD, zD)), .int .i64 10]) ?_ rfl ⟨rfl, (unhide HK0).setRow (Or.inr (by omega)) _⟩
      exact results_cell_tmp rfl _ _ (w.heap.size + 1) _ (pw (zD, zD)) (0, 0) _ rfl (setRow_heap _ _ _ _ _ _ (unhide HGZ)) Tryd.underlying65 rfl Tryd.size_pz _ rfl
end Go.Proofs.YtbljofojeagdkaaDoor
namespace Go.Proofs.YtbljofojeagdkaaDoor
open Go.RowKit Go.BigFrame
set_option linter.unusedVariables false
set_option linter.unusedSimpArgs false

theorem opP_dg {o : Option (List Nat × List Nat)} (h : ∀ d, o = some d → Dg d.1 ∧ Dg d.2) : Dg (opP o).1 ∧ Dg (opP o).2 := by
  cases o with
  | none => exact ⟨zD_dg, zD_dg⟩
  | some d => exact h d rfl
theorem pw_ranges {w : World} {g : Nat} {t : TypeId} {fr : Nat × Nat} {d : List Nat × List Nat} (h : w.heap[g]? = some (.cells (pw d) t fr)) (h1 : d.1.length = 32) : w.rangeAt g 0 (d.1.map u8) ∧ w.rangeAt g 32 (d.2.map u8) := by
  unfold pw at h
  exact ⟨a_mid (n := 0) [] _ _ (by simpa using h) rfl, a_mid (n := 32) (d.1.map u8) (d.2.map u8) [] (by simpa using h) (by simp [h1])⟩
theorem opE_map (O : Option (List Nat × List Nat)) (f : List Nat × List Nat → List Nat) : opE (O.map f) = opF O := by cases O <;> rfl
theorem opD_fst (O : Option (List Nat × List Nat)) : opD (O.map (fun p => p.1)) = (opP O).1 := by cases O <;> rfl
theorem opD_snd (O : Option (List Nat × List Nat)) : opD (O.map (fun p => p.2)) = (opP O).2 := by cases O <;> rfl

theorem over_sl (z : Int) (O : Option (List Nat × List Nat)) (x : List Nat) (w : World) (hz : -9223372036854775808 ≤ z ∧ z ≤ 9223372036854775807) (hw : widthB z = true) (hO : ∀ d, O = some d → (Dg d.1 ∧ formB z d.1 = true) ∧ (Dg d.2 ∧ formB z d.2 = true)) (hx : Dg x) (hxf : formB z x = true) (hT : Tabs w) :
    Calls Tryd.prog 45 #[.int .i64 (opF O), .int .i64 z, .agg (brow (opP O).2), .agg (brow x)] w fun e w' => e = .returned (.tuple #[.agg (brow (opD (O.map (fun y => nodS z y.2 x)))), .int .i64 (opF O)]) ∧ Kept [] w w' := by
  cases O with
  | none => exact over_bad 10 z _ _ w (by decide)
  | some d => exact over_ok z d.2 x w hz hw (hO d rfl).2.1 hx (hO d rfl).2.2 hxf hT
theorem over_rf (z : Int) (O : Option (List Nat × List Nat)) (x : List Nat) (w : World) (hz : -9223372036854775808 ≤ z ∧ z ≤ 9223372036854775807) (hw : widthB z = true) (hO : ∀ d, O = some d → (Dg d.1 ∧ formB z d.1 = true) ∧ (Dg d.2 ∧ formB z d.2 = true)) (hx : Dg x) (hxf : formB z x = true) (hT : Tabs w) :
    Calls Tryd.prog 45 #[.int .i64 (opF O), .int .i64 z, .agg (brow x), .agg (brow (opP O).1)] w fun e w' => e = .returned (.tuple #[.agg (brow (opD (O.map (fun y => nodS z x y.1)))), .int .i64 (opF O)]) ∧ Kept [] w w' := by
  cases O with
  | none => exact over_bad 10 z _ _ w (by decide)
  | some d => exact over_ok z x d.1 w hz hw hx (hO d rfl).1.1 hxf (hO d rfl).1.2 hT
theorem over_rs (z : Int) (O : Option (List Nat × List Nat)) (x : List Nat) (w : World) (hz : -9223372036854775808 ≤ z ∧ z ≤ 9223372036854775807) (hw : widthB z = true) (hO : ∀ d, O = some d → (Dg d.1 ∧ formB z d.1 = true) ∧ (Dg d.2 ∧ formB z d.2 = true)) (hx : Dg x) (hxf : formB z x = true) (hT : Tabs w) :
    Calls Tryd.prog 45 #[.int .i64 (opF O), .int .i64 z, .agg (brow x), .agg (brow (opP O).2)] w fun e w' => e = .returned (.tuple #[.agg (brow (opD (O.map (fun y => nodS z x y.2)))), .int .i64 (opF O)]) ∧ Kept [] w w' := by
  cases O with
  | none => exact over_bad 10 z _ _ w (by decide)
  | some d => exact over_ok z x d.2 w hz hw hx (hO d rfl).2.1 hxf (hO d rfl).2.2 hT
theorem opD_map_dg (O : Option (List Nat × List Nat)) (f : List Nat × List Nat → List Nat) (h : ∀ y, Dg (f y)) : Dg (opD (O.map f)) := by
  cases O with
  | none => exact zD_dg
  | some d => exact h d

set_option maxRecDepth 100000 in
set_option maxHeartbeats 2000000 in
theorem climbBoth_any (z : Int) (old : List Nat) (hz : -9223372036854775808 ≤ z ∧ z ≤ 9223372036854775807) (hw : widthB z = true) (ho : Dg old) (hf : formB z old = true) : ∀ (rp : List (List Nat)) (m n : Nat) (b : Bool) (pv : Value) (w : World), 1 ≤ m → m ≤ n → n < 18446744073709551616 → RdD w pv rp.reverse → (∀ x ∈ rp, formB z x = true) → Tabs w →
    Calls Tryd.prog 30 #[.int .i64 z, .int .u64 m, .int .u64 n, .agg (brow old), .bool b, pv] w fun e w' => e = .returned (.tuple #[.agg (pw (opP (twD z old rp m n b))), .int .i64 (opF (twD z old rp m n b))]) ∧ Kept [] w w' := by
  intro rp
  induction rp with
  | nil =>
    intro m n b pv w hm1 hmn hn hp hpf hT
    have HP := hide hp
    obtain ⟨ao, len, cap, rfl, h1, h2, h3, h4, h5⟩ := hp
    have hlen : len = 0 := by simpa using h1.symm
    subst hlen
    clear h1 h2 h3 h4 h5 hpf hT
    have hol := ho.1
    have HO := hide ho
    have HSL := hide (by rw [List.length_map, hol]; exact Tryd.size_dig : (Tryd.prog.info? 23).map (·.size) = some (old.map u8).length)
    have HTW := hide (fun d hd => twD_ok hw ho hf [] m n b d (by simp) hd)
    obtain ⟨F, hF⟩ : ∃ F, twD z old [] m n b = F := ⟨_, rfl⟩
    rw [hF] at HTW
    have HFF := hide hF
    rw [hF]
    clear hF
    have hdg := opP_dg (o := F) (fun d hd => ⟨(unhide HTW d hd).1.1, (unhide HTW d hd).2.1⟩)
    have hFs := pw_size hdg.1.1 hdg.2.1
    have HSF := hide (by rw [hFs]; exact Tryd.size_roots : (Tryd.prog.info? 65).map (·.size) = some (pw (opP F)).size)
    clear hdg
    go_enter Tryd.func30, Tryd.ntmps30
    have HGL := hide (((Kept.refl [] (w.alloc (.cells (brow old) 23))).alloc (.cells (zb 64) 65)).heap (heap_alloc_new w (.cells (brow old) 23)) (by simp))
    have HGZ := hide (alloc_at w (.cells (brow old) 23) (.cells (zb 64) 65))
    have HK0 := hide (((Kept.refl [] w).alloc (.cells (brow old) 23)).alloc (.cells (zb 64) 65))
    by_cases h1 : m = n
    · have h1' : ((m : Int) == n) = true := by simp; omega
      subst h1
      go_wp2_with (refine wpList_load_mid rfl 23 _ rfl w.heap.size 0 rfl (old.map u8) _ (range_row (unhide HGL)) Tryd.underlying23 rfl (unhide HSL) ?_)
      rw [zb64]
      refine Calls.mono (lowest_any old b _ [] _ (unhide HO) ((unhide HP).old (unhide HK0)) z m) ?_
      rintro e w1 ⟨rfl, k1⟩
      rw [List.reverse_nil, unhide HFF]
      have HZ1 := hide (k1.heap (unhide HGZ) (by simp))
      have HK1 := hide ((unhide HK0).trans k1 (by simp))
      clear k1
      go_wp2_with (refine wpList_store_row rfl 65 _ _ rfl (w.heap.size + 1) (pw (opP F)) rfl rfl _ (zb 64) (unhide HZ1) (unhide HSF) (by rw [zb_size, hFs]) (pw_one _) ?_)
      refine bodyPost_ret (v := .tuple #[.agg (pw (opP F)), .int .i64 (opF F)]) ?_ rfl ⟨rfl, (unhide HK1).setRow (Or.inr (by omega)) _⟩
      exact results_cell_tmp rfl _ _ (w.heap.size + 1) _ (pw (opP F)) (0, 0) _ rfl (setRow_heap _ _ _ _ _ _ (unhide HZ1)) Tryd.underlying65 rfl (unhide HSF) _ rfl
    · have h1' : ((m : Int) == n) = false := by simp; omega
      have HC := hide (by rw [← unhide HFF]; simp [twD, h1] : F = none)
      go_wp2_with (first
        | (refine wpList_build_as rfl 65 #[] rfl (pw (zD, zD)) (by kernel_rfl) ?_)
        | (rw [zb64]; refine wpList_store_row rfl 65 _ _ rfl (w.heap.size + 1) (pw (zD, zD)) rfl rfl _ (zb 64) (unhide HGZ) Tryd.size_pz (by rw [zb_size, pw_size rfl rfl]) (pw_one _) ?_))
      rw [unhide HC]
      refine bodyPost_ret (v := .tuple #[.agg (pw (zD, zD)), .int .i64 10]) ?_ rfl ⟨rfl, (unhide HK0).setRow (Or.inr (by omega)) _⟩
      exact results_cell_tmp rfl _ _ (w.heap.size + 1) _ (pw (zD, zD)) (0, 0) _ rfl (setRow_heap _ _ _ _ _ _ (unhide HGZ)) Tryd.underlying65 rfl Tryd.size_pz _ rfl
  | cons x r ih =>
    intro m n b pv w hm1 hmn hn hp hpf hT
    have HP := hide hp
    obtain ⟨ao, len, cap, rfl, h1, h2, h3, h4, h5⟩ := hp
    have hlen : len = r.length + 1 := by rw [← h1]; simp
    subst hlen
    clear h1 h4 h5
    have HT := hide hT
    have HPF := hide hpf
    have hol := ho.1
    have HO := hide ho
    have HX := hide ((unhide HP).dg (show x ∈ (x :: r).reverse by simp))
    have hxl := (unhide HX).1
    have HSL := hide (by rw [List.length_map, hol]; exact Tryd.size_dig : (Tryd.prog.info? 23).map (·.size) = some (old.map u8).length)
    have HPD := hide (fun y hy => ⟨(unhide HP).dg (List.mem_reverse.2 hy), hpf y hy⟩ : ∀ y ∈ x :: r, Dg y ∧ formB z y = true)
    have HTW := hide (fun d hd => twD_ok hw ho hf (x :: r) m n b d (unhide HPD) hd)
    clear hT hpf
    obtain ⟨F, hF⟩ : ∃ F, twD z old (x :: r) m n b = F := ⟨_, rfl⟩
    rw [hF] at HTW
    have HFF := hide hF
    rw [hF]
    clear hF
    have hdg := opP_dg (o := F) (fun d hd => ⟨(unhide HTW d hd).1.1, (unhide HTW d hd).2.1⟩)
    have hFs := pw_size hdg.1.1 hdg.2.1
    have HSF := hide (by rw [hFs]; exact Tryd.size_roots : (Tryd.prog.info? 65).map (·.size) = some (pw (opP F)).size)
    clear hdg HTW
    go_enter Tryd.func30, Tryd.ntmps30
    have HGL := hide (((Kept.refl [] (w.alloc (.cells (brow old) 23))).alloc (.cells (zb 64) 65)).heap (heap_alloc_new w (.cells (brow old) 23)) (by simp))
    have HGZ := hide (alloc_at w (.cells (brow old) 23) (.cells (zb 64) 65))
    have HK0 := hide (((Kept.refl [] w).alloc (.cells (brow old) 23)).alloc (.cells (zb 64) 65))
    by_cases h1 : m = n
    · have h1' : ((m : Int) == n) = true := by simp; omega
      subst h1
      go_wp2_with (refine wpList_load_mid rfl 23 _ rfl w.heap.size 0 rfl (old.map u8) _ (range_row (unhide HGL)) Tryd.underlying23 rfl (unhide HSL) ?_)
      rw [zb64]
      refine Calls.mono (lowest_any old b _ (x :: r).reverse _ (unhide HO) ((unhide HP).old (unhide HK0)) z m) ?_
      rintro e w1 ⟨rfl, k1⟩
      rw [List.reverse_reverse, unhide HFF]
      have HZ1 := hide (k1.heap (unhide HGZ) (by simp))
      have HK1 := hide ((unhide HK0).trans k1 (by simp))
      clear k1
      go_wp2_with (refine wpList_store_row rfl 65 _ _ rfl (w.heap.size + 1) (pw (opP F)) rfl rfl _ (zb 64) (unhide HZ1) (unhide HSF) (by rw [zb_size, hFs]) (pw_one _) ?_)
      refine bodyPost_ret (v := .tuple #[.agg (pw (opP F)), .int .i64 (opF F)]) ?_ rfl ⟨rfl, (unhide HK1).setRow (Or.inr (by omega)) _⟩
      exact results_cell_tmp rfl _ _ (w.heap.size + 1) _ (pw (opP F)) (0, 0) _ rfl (setRow_heap _ _ _ _ _ _ (unhide HZ1)) Tryd.underlying65 rfl (unhide HSF) _ rfl
    · have h1' : ((m : Int) == n) = false := by simp; omega
      have hne : (((r.length : Int) + 1) == 0) = false := by simp; omega
      go_wp2_with fail
      refine Calls.mono (parted_any _ (x :: r).reverse r x _ ((unhide HP).old (unhide HK0)) (by simp)) ?_
      rintro e w1 ⟨u1, rfl, d1, k1⟩
      have HD1 := hide d1
      have HG1 := hide (k1.heap (unhide HGL) (by simp))
      have HZ1 := hide (k1.heap (unhide HGZ) (by simp))
      have HK1 := hide ((unhide HK0).trans k1 (by simp))
      obtain ⟨a1, n1, c1, rfl, _⟩ := id d1
      clear d1 k1 HGL HGZ
      have HXW := hide (setRow_heap (w1.alloc (.cells (zb 32) 23)) w1.heap.size (zb 32) (brow x) 23 (0, 0) (heap_alloc_new _ _))
      have k2 := ((Kept.refl [] w1).alloc (.cells (zb 32) 23)).setRow (g := w1.heap.size) (Or.inr (Nat.le_refl _)) (brow x)
      have HSX := hide (by rw [brow_size, hxl]; exact Tryd.size_dig : (Tryd.prog.info? 23).map (·.size) = some (brow x).size)
      have HSXL := hide (by rw [List.length_map, hxl]; exact Tryd.size_dig : (Tryd.prog.info? 23).map (·.size) = some (x.map u8).length)
      have HD2 := hide ((unhide HD1).old k2)
      have HG2 := hide (k2.heap (unhide HG1) (by simp))
      have HZ2 := hide (k2.heap (unhide HZ1) (by simp))
      have HK2 := hide ((unhide HK1).trans k2 (by simp))
      clear k2 HD1 HG1 HZ1
      go_wp2_with (rw [zb32]; refine wpList_store_row rfl 23 _ _ rfl w1.heap.size (brow x) rfl rfl _ (zb 32) (heap_alloc_new _ _) (unhide HSX) (by rw [zb_size, brow_size, hxl]) (brow_one _) ?_)
      refine Calls.mono (split_any n _ (by omega) hn) ?_
      rintro e w3 ⟨rfl, k3⟩
      have HX3 := hide (k3.heap (unhide HXW) (by simp))
      have HD3 := hide ((unhide HD2).old k3)
      have HG3 := hide (k3.heap (unhide HG2) (by simp))
      have HZ3 := hide (k3.heap (unhide HZ2) (by simp))
      have HK3 := hide ((unhide HK2).trans k3 (by simp))
      clear k3 HXW HD2 HG2 HZ2
      have hk1 := spl_pos n
      have hk2 := spl_lt (n := n) (by omega)
      have HXF := hide (unhide HPF x (by simp))
      have HRF := hide (fun y hy => unhide HPF y (by simp [hy]) : ∀ y ∈ r, formB z y = true)
      have HRD := hide (fun y hy => unhide HPD y (by simp [hy]) : ∀ y ∈ r, Dg y ∧ formB z y = true)
      by_cases hik : m ≤ spl n
      · have hik' : (m : Int) ≤ (spl n : Nat) := by omega
        have HC := hide (by rw [← unhide HFF]; conv => lhs; unfold twD; rw [if_neg h1, if_pos hik] : F = (twD z old r m (spl n) b).map (fun y => (y.1, nodS z y.2 x)))
        have IH := fun (w' : World) (h' : RdD w' (.slice a1 n1 c1) r.reverse) (t' : Tabs w') => ih m (spl n) b (.slice a1 n1 c1) w' hm1 hik (by omega) h' (unhide HRF) t'
        have HOK := hide (fun d hd => twD_ok hw ho hf r m (spl n) b d (unhide HRD) hd)
        generalize twD z old r m (spl n) b = O at HC IH HOK
        go_wp2_with (refine wpList_load_mid rfl 23 _ rfl w.heap.size 0 rfl (old.map u8) _ (range_row (unhide HG3)) Tryd.underlying23 rfl (unhide HSL) ?_)
        refine Calls.mono (IH _ (unhide HD3) ((unhide HT).k (unhide HK3))) ?_
        rintro e w4 ⟨rfl, k4⟩
        have HX4 := hide (k4.heap (unhide HX3) (by simp))
        have HZ4 := hide (k4.heap (unhide HZ3) (by simp))
        have HK4 := hide ((unhide HK3).trans k4 (by simp))
        clear k4 HX3 HD3 HG3 HZ3 IH
        have hdg := opP_dg (o := O) (fun d hd => ⟨(unhide HOK d hd).1.1, (unhide HOK d hd).2.1⟩)
        have hol1 := hdg.1.1
        have hol2 := hdg.2.1
        have hOs := pw_size hol1 hol2
        have HSO := hide (by rw [hOs]; exact Tryd.size_roots : (Tryd.prog.info? 65).map (·.size) = some (pw (opP O)).size)
        have HNW := hide (setRow_heap (w4.alloc (.cells (zb 64) 65)) w4.heap.size (zb 64) (pw (opP O)) 65 (0, 0) (heap_alloc_new _ _))
        have k5 := ((Kept.refl [] w4).alloc (.cells (zb 64) 65)).setRow (g := w4.heap.size) (Or.inr (Nat.le_refl _)) (pw (opP O))
        have HX5 := hide (k5.heap (unhide HX4) (by simp))
        have HZ5 := hide (k5.heap (unhide HZ4) (by simp))
        have HK5 := hide ((unhide HK4).trans k5 (by simp))
        have HR1 := hide (pw_ranges (unhide HNW) hol1).1
        have HR2 := hide (pw_ranges (unhide HNW) hol1).2
        have HS1 := hide (by rw [List.length_map, hol1]; exact Tryd.size_dig : (Tryd.prog.info? 23).map (·.size) = some ((opP O).1.map u8).length)
        have HS2 := hide (by rw [List.length_map, hol2]; exact Tryd.size_dig : (Tryd.prog.info? 23).map (·.size) = some ((opP O).2.map u8).length)
        clear k5 HX4 HZ4
        go_wp2_with (first
          | (rw [zb64]; refine wpList_store_row rfl 65 _ _ rfl w4.heap.size (pw (opP O)) rfl rfl _ (zb 64) (heap_alloc_new _ _) (unhide HSO) (by rw [zb_size, hOs]) (pw_one _) ?_)
          | (refine wpList_load_mid rfl 23 _ rfl w4.heap.size 32 rfl ((opP O).2.map u8) _ (unhide HR2) Tryd.underlying23 rfl (unhide HS2) ?_)
          | (refine wpList_load_mid rfl 23 _ rfl w1.heap.size 0 rfl (x.map u8) _ (range_row (unhide HX5)) Tryd.underlying23 rfl (unhide HSXL) ?_))
        refine Calls.mono (over_sl z O x _ hz hw (unhide HOK) (unhide HX) (unhide HXF) ((unhide HT).k (unhide HK5))) ?_
        rintro e w6 ⟨rfl, k6⟩
        have HZ6 := hide (k6.heap (unhide HZ5) (by simp))
        have HK6 := hide ((unhide HK5).trans k6 (by simp))
        have HR6 := hide (range_kept (unhide HR1) k6 (by simp))
        clear k6 HX5 HZ5 HNW HR1 HR2
        have hNl := (opD_map_dg O (fun y => nodS z y.2 x) (fun y => nodS_dg _ _ _)).1
        obtain ⟨N, hN⟩ : ∃ N, opD (O.map (fun y => nodS z y.2 x)) = N := ⟨_, rfl⟩
        have HNE := hide hN
        rw [hN] at hNl ⊢
        clear hN
        have HSN := hide (by rw [brow_size, hNl]; exact Tryd.size_dig : (Tryd.prog.info? 23).map (·.size) = some (brow N).size)
        have HSLN := hide (by rw [List.length_map, hNl]; exact Tryd.size_dig : (Tryd.prog.info? 23).map (·.size) = some (N.map u8).length)
        have HNN := hide (setRow_heap (w6.alloc (.cells (zb 32) 23)) w6.heap.size (zb 32) (brow N) 23 (0, 0) (heap_alloc_new _ _))
        have kN := ((Kept.refl [] w6).alloc (.cells (zb 32) 23)).setRow (g := w6.heap.size) (Or.inr (Nat.le_refl _)) (brow N)
        have HZ7 := hide (kN.heap (unhide HZ6) (by simp))
        have HK7 := hide ((unhide HK6).trans kN (by simp))
        have HR7 := hide (range_kept (unhide HR6) kN (by simp))
        clear kN HZ6 HR6
        have HPF2 := hide (by rw [unhide HC, ← unhide HNE]; cases O <;> exact ⟨rfl, rfl⟩ : ((opP O).1, N) = opP F ∧ opF O = opF F)
        have HPS := hide (by rw [(unhide HPF2).1]; exact unhide HSF : (Tryd.prog.info? 65).map (·.size) = some (pw ((opP O).1, N)).size)
        have HPZ := hide (by rw [(unhide HPF2).1, zb_size, hFs] : (zb 64).size = (pw ((opP O).1, N)).size)
        go_wp2_with (first
          | (rw [zb32]; refine wpList_store_row rfl 23 _ _ rfl w6.heap.size (brow N) rfl rfl _ (zb 32) (heap_alloc_new _ _) (unhide HSN) (by rw [zb_size, brow_size, hNl]) (brow_one _) ?_)
          | (refine wpList_load_mid rfl 23 _ rfl w4.heap.size 0 rfl ((opP O).1.map u8) _ (unhide HR7) Tryd.underlying23 rfl (unhide HS1) ?_)
          | (refine wpList_load_mid rfl 23 _ rfl w6.heap.size 0 rfl (N.map u8) _ (range_row (unhide HNN)) Tryd.underlying23 rfl (unhide HSLN) ?_)
          | (refine wpList_build_as rfl 65 _ rfl (pw ((opP O).1, N)) (by simp only [List.map_toArray, List.map_cons, List.map_nil]; exact built_pair (opP O).1 N hol1 hNl) ?_)
          | (refine wpList_store_row rfl 65 _ _ rfl (w.heap.size + 1) (pw ((opP O).1, N)) rfl rfl _ (zb 64) (unhide HZ7) (unhide HPS) (unhide HPZ) (pw_one _) ?_))
        refine bodyPost_ret (v := .tuple #[.agg (pw ((opP O).1, N)), .int .i64 (opF O)]) ?_ rfl ⟨by rw [(unhide HPF2).1, (unhide HPF2).2], (unhide HK7).setRow (Or.inr (by omega)) _⟩
        exact results_cell_tmp rfl _ _ (w.heap.size + 1) _ (pw ((opP O).1, N)) (0, 0) _ rfl (setRow_heap _ _ _ _ _ _ (unhide HZ7)) Tryd.underlying65 rfl (unhide HPS) _ rfl
      · have hik' : ¬ (m : Int) ≤ (spl n : Nat) := by omega
        have hs1 : ((m : Int) - (spl n : Nat)) = ((m - spl n : Nat) : Int) := by omega
        have hs2 : ((n : Int) - (spl n : Nat)) = ((n - spl n : Nat) : Int) := by omega
        have hb1 : ((spl n : Nat) : Int) ≤ m := by omega
        have hb2 : ((spl n : Nat) : Int) ≤ n := by omega
        have HC := hide (by rw [← unhide HFF]; conv => lhs; unfold twD; rw [if_neg h1, if_neg hik] : F = (twD z old r (m - spl n) (n - spl n) false).map (fun y => (nodS z x y.1, nodS z x y.2)))
        have IH := fun (w' : World) (h' : RdD w' (.slice a1 n1 c1) r.reverse) (t' : Tabs w') => ih (m - spl n) (n - spl n) false (.slice a1 n1 c1) w' (by omega) (by omega) (by omega) h' (unhide HRF) t'
        have HOK := hide (fun d hd => twD_ok hw ho hf r (m - spl n) (n - spl n) false d (unhide HRD) hd)
        generalize twD z old r (m - spl n) (n - spl n) false = O at HC IH HOK
        go_wp2_with (refine wpList_load_mid rfl 23 _ rfl w.heap.size 0 rfl (old.map u8) _ (range_row (unhide HG3)) Tryd.underlying23 rfl (unhide HSL) ?_)
        refine Calls.mono (IH _ (unhide HD3) ((unhide HT).k (unhide HK3))) ?_
        rintro e w4 ⟨rfl, k4⟩
        have HX4 := hide (k4.heap (unhide HX3) (by simp))
        have HZ4 := hide (k4.heap (unhide HZ3) (by simp))
        have HK4 := hide ((unhide HK3).trans k4 (by simp))
        clear k4 HX3 HD3 HG3 HZ3 IH
        have hdg := opP_dg (o := O) (fun d hd => ⟨(unhide HOK d hd).1.1, (unhide HOK d hd).2.1⟩)
        have hol1 := hdg.1.1
        have hol2 := hdg.2.1
        have hOs := pw_size hol1 hol2
        have HSO := hide (by rw [hOs]; exact Tryd.size_roots : (Tryd.prog.info? 65).map (·.size) = some (pw (opP O)).size)
        have HNW := hide (setRow_heap (w4.alloc (.cells (zb 64) 65)) w4.heap.size (zb 64) (pw (opP O)) 65 (0, 0) (heap_alloc_new _ _))
        have k5 := ((Kept.refl [] w4).alloc (.cells (zb 64) 65)).setRow (g := w4.heap.size) (Or.inr (Nat.le_refl _)) (pw (opP O))
        have HX5 := hide (k5.heap (unhide HX4) (by simp))
        have HZ5 := hide (k5.heap (unhide HZ4) (by simp))
        have HK5 := hide ((unhide HK4).trans k5 (by simp))
        have HR1 := hide (pw_ranges (unhide HNW) hol1).1
        have HR2 := hide (pw_ranges (unhide HNW) hol1).2
        have HS1 := hide (by rw [List.length_map, hol1]; exact Tryd.size_dig : (Tryd.prog.info? 23).map (·.size) = some ((opP O).1.map u8).length)
        have HS2 := hide (by rw [List.length_map, hol2]; exact Tryd.size_dig : (Tryd.prog.info? 23).map (·.size) = some ((opP O).2.map u8).length)
        clear k5 HX4 HZ4
        go_wp2_with (first
          | (rw [zb64]; refine wpList_store_row rfl 65 _ _ rfl w4.heap.size (pw (opP O)) rfl rfl _ (zb 64) (heap_alloc_new _ _) (unhide HSO) (by rw [zb_size, hOs]) (pw_one _) ?_)
          | (refine wpList_load_mid rfl 23 _ rfl w4.heap.size 0 rfl ((opP O).1.map u8) _ (unhide HR1) Tryd.underlying23 rfl (unhide HS1) ?_)
          | (refine wpList_load_mid rfl 23 _ rfl w1.heap.size 0 rfl (x.map u8) _ (range_row (unhide HX5)) Tryd.underlying23 rfl (unhide HSXL) ?_))
        refine Calls.mono (over_rf z O x _ hz hw (unhide HOK) (unhide HX) (unhide HXF) ((unhide HT).k (unhide HK5))) ?_
        rintro e w6 ⟨rfl, k6⟩
        have HZ6 := hide (k6.heap (unhide HZ5) (by simp))
        have HX6 := hide (k6.heap (unhide HX5) (by simp))
        have HK6 := hide ((unhide HK5).trans k6 (by simp))
        have HR6 := hide (range_kept (unhide HR2) k6 (by simp))
        clear k6 HX5 HZ5 HNW HR1 HR2
        have hMl := (opD_map_dg O (fun y => nodS z x y.1) (fun y => nodS_dg _ _ _)).1
        obtain ⟨M, hM⟩ : ∃ M, opD (O.map (fun y => nodS z x y.1)) = M := ⟨_, rfl⟩
        have HME := hide hM
        rw [hM] at hMl ⊢
        clear hM
        have HSM := hide (by rw [brow_size, hMl]; exact Tryd.size_dig : (Tryd.prog.info? 23).map (·.size) = some (brow M).size)
        have HSLM := hide (by rw [List.length_map, hMl]; exact Tryd.size_dig : (Tryd.prog.info? 23).map (·.size) = some (M.map u8).length)
        have HNM := hide (setRow_heap (w6.alloc (.cells (zb 32) 23)) w6.heap.size (zb 32) (brow M) 23 (0, 0) (heap_alloc_new _ _))
        have kM := ((Kept.refl [] w6).alloc (.cells (zb 32) 23)).setRow (g := w6.heap.size) (Or.inr (Nat.le_refl _)) (brow M)
        have HZ7 := hide (kM.heap (unhide HZ6) (by simp))
        have HX7 := hide (kM.heap (unhide HX6) (by simp))
        have HK7 := hide ((unhide HK6).trans kM (by simp))
        have HR7 := hide (range_kept (unhide HR6) kM (by simp))
        clear kM HZ6 HR6 HX6
        go_wp2_with (first
          | (rw [zb32]; refine wpList_store_row rfl 23 _ _ rfl w6.heap.size (brow M) rfl rfl _ (zb 32) (heap_alloc_new _ _) (unhide HSM) (by rw [zb_size, brow_size, hMl]) (brow_one _) ?_)
          | (refine wpList_load_mid rfl 23 _ rfl w4.heap.size 32 rfl ((opP O).2.map u8) _ (unhide HR7) Tryd.underlying23 rfl (unhide HS2) ?_)
          | (refine wpList_load_mid rfl 23 _ rfl w1.heap.size 0 rfl (x.map u8) _ (range_row (unhide HX7)) Tryd.underlying23 rfl (unhide HSXL) ?_))
        refine Calls.mono (over_rs z O x _ hz hw (unhide HOK) (unhide HX) (unhide HXF) ((unhide HT).k (unhide HK7))) ?_
        rintro e w8 ⟨rfl, k8⟩
        have HZ8 := hide (k8.heap (unhide HZ7) (by simp))
        have HM8 := hide (k8.heap (unhide HNM) (by simp))
        have HK8 := hide ((unhide HK7).trans k8 (by simp))
        clear k8 HZ7 HX7 HR7 HNM
        have hNl := (opD_map_dg O (fun y => nodS z x y.2) (fun y => nodS_dg _ _ _)).1
        obtain ⟨N, hN⟩ : ∃ N, opD (O.map (fun y => nodS z x y.2)) = N := ⟨_, rfl⟩
        have HNE := hide hN
        rw [hN] at hNl ⊢
        clear hN
        have HSN := hide (by rw [brow_size, hNl]; exact Tryd.size_dig : (Tryd.prog.info? 23).map (·.size) = some (brow N).size)
        have HSLN := hide (by rw [List.length_map, hNl]; exact Tryd.size_dig : (Tryd.prog.info? 23).map (·.size) = some (N.map u8).length)
        have HNN := hide (setRow_heap (w8.alloc (.cells (zb 32) 23)) w8.heap.size (zb 32) (brow N) 23 (0, 0) (heap_alloc_new _ _))
        have kN := ((Kept.refl [] w8).alloc (.cells (zb 32) 23)).setRow (g := w8.heap.size) (Or.inr (Nat.le_refl _)) (brow N)
        have HZ9 := hide (kN.heap (unhide HZ8) (by simp))
        have HM9 := hide (kN.heap (unhide HM8) (by simp))
        have HK9 := hide ((unhide HK8).trans kN (by simp))
        clear kN HZ8 HM8
        have HPF2 := hide (by rw [unhide HC, ← unhide HNE, ← unhide HME]; cases O <;> exact ⟨rfl, rfl⟩ : (M, N) = opP F ∧ opF O = opF F)
        have HPS := hide (by rw [(unhide HPF2).1]; exact unhide HSF : (Tryd.prog.info? 65).map (·.size) = some (pw (M, N)).size)
        have HPZ := hide (by rw [(unhide HPF2).1, zb_size, hFs] : (zb 64).size = (pw (M, N)).size)
        go_wp2_with (first
          | (rw [zb32]; refine wpList_store_row rfl 23 _ _ rfl w8.heap.size (brow N) rfl rfl _ (zb 32) (heap_alloc_new _ _) (unhide HSN) (by rw [zb_size, brow_size, hNl]) (brow_one _) ?_)
          | (refine wpList_load_mid rfl 23 _ rfl w6.heap.size 0 rfl (M.map u8) _ (range_row (unhide HM9)) Tryd.underlying23 rfl (unhide HSLM) ?_)
          | (refine wpList_load_mid rfl 23 _ rfl w8.heap.size 0 rfl (N.map u8) _ (range_row (unhide HNN)) Tryd.underlying23 rfl (unhide HSLN) ?_)
          | (refine wpList_build_as rfl 65 _ rfl (pw (M, N)) (by simp only [List.map_toArray, List.map_cons, List.map_nil]; exact built_pair M N hMl hNl) ?_)
          | (refine wpList_store_row rfl 65 _ _ rfl (w.heap.size + 1) (pw (M, N)) rfl rfl _ (zb 64) (unhide HZ9) (unhide HPS) (unhide HPZ) (pw_one _) ?_))
        refine bodyPost_ret (v := .tuple #[.agg (pw (M, N)), .int .i64 (opF O)]) ?_ rfl ⟨by rw [(unhide HPF2).1, (unhide HPF2).2], (unhide HK9).setRow (Or.inr (by omega)) _⟩
        exact results_cell_tmp rfl _ _ (w.heap.size + 1) _ (pw (M, N)) (0, 0) _ rfl (setRow_heap _ _ _ _ _ _ (unhide HZ9)) Tryd.underlying65 rfl (unhide HPS) _ rfl
end Go.Proofs.YtbljofojeagdkaaDoor
/-
  A return of two parts of a variable and a number: five reads, two stores, an assign; reads may come up behind stores. One law for all orders.
-/
namespace Go.Proofs.YtbljofojeagdkaaDoor
open Go
section
variable {P : Program} {Q : Exit → Act → World → Prop}
theorem wp_ret8 {id : Nat} {o0 o1 o2 o3 o4 o5 o6 o7 : Oper} {a : Act} {w : World} (S : World → Prop) (hm : P.follows .mixedOrders = true) (hs : Region.noSelect #[o0, o1, o2, o3, o4, o5, o6, o7] = true)
    (f0 : Region.free .any #[o0, o1, o2, o3, o4, o5, o6, o7] #[false, false, false, false, false, false, false, false] 0 = true) (r0 : (Region.ready .any #[o0, o1, o2, o3, o4, o5, o6, o7] #[false, false, false, false, false, false, false, false]).contains 0 = true)
    (f1 : Region.free .any #[o0, o1, o2, o3, o4, o5, o6, o7] #[true, false, false, false, false, false, false, false] 1 = true) (r1 : (Region.ready .any #[o0, o1, o2, o3, o4, o5, o6, o7] #[true, false, false, false, false, false, false, false]).contains 1 = true)
    (f2 : Region.free .any #[o0, o1, o2, o3, o4, o5, o6, o7] #[true, true, false, false, false, false, false, false] 2 = true) (r2 : (Region.ready .any #[o0, o1, o2, o3, o4, o5, o6, o7] #[true, true, false, false, false, false, false, false]).contains 2 = true)
    (f3 : Region.free .any #[o0, o1, o2, o3, o4, o5, o6, o7] #[true, true, true, false, false, false, false, false] 3 = true) (r3 : (Region.ready .any #[o0, o1, o2, o3, o4, o5, o6, o7] #[true, true, true, false, false, false, false, false]).contains 3 = true)
    (f4 : Region.free .any #[o0, o1, o2, o3, o4, o5, o6, o7] #[true, true, true, true, false, false, false, false] 4 = true) (r4 : (Region.ready .any #[o0, o1, o2, o3, o4, o5, o6, o7] #[true, true, true, true, false, false, false, false]).contains 4 = true)
    (r5 : Region.ready .any #[o0, o1, o2, o3, o4, o5, o6, o7] #[true, true, true, true, true, false, false, false] = [5]) (r6 : Region.ready .any #[o0, o1, o2, o3, o4, o5, o6, o7] #[true, true, true, true, true, true, false, false] = [6])
    (f7 : Region.free .any #[o0, o1, o2, o3, o4, o5, o6, o7] #[true, true, true, true, true, true, true, false] 7 = true) (r7 : (Region.ready .any #[o0, o1, o2, o3, o4, o5, o6, o7] #[true, true, true, true, true, true, true, false]).contains 7 = true)
    (r8 : Region.ready .any #[o0, o1, o2, o3, o4, o5, o6, o7] #[true, true, true, true, true, true, true, true] = [])
    (g5 : o5.guard = none) (g6 : o6.guard = none)
    (hS : S w.drew) (v0 v1 v2 v3 v4 v7 : Value) (A0 A1 A2 A3 A A5 A6 A7 : Act)
    (p0 : a.put o0.dst v0 = A0) (p1 : A0.put o1.dst v1 = A1) (p2 : A1.put o2.dst v2 = A2) (p3 : A2.put o3.dst v3 = A3) (p4 : A3.put o4.dst v4 = A) (p5 : A.put o5.dst undef = A5) (p6 : A5.put o6.dst undef = A6) (p7 : A6.put o7.dst v7 = A7)
    (hy0 : YieldsIf P #[o0, o1, o2, o3, o4, o5, o6, o7] S o0 v0 a) (hy1 : YieldsIf P #[o0, o1, o2, o3, o4, o5, o6, o7] S o1 v1 A0) (hy2 : YieldsIf P #[o0, o1, o2, o3, o4, o5, o6, o7] S o2 v2 A1) (hy3 : YieldsIf P #[o0, o1, o2, o3, o4, o5, o6, o7] S o3 v3 A2) (hy4 : YieldsIf P #[o0, o1, o2, o3, o4, o5, o6, o7] S o4 v4 A3)
    (t5 t6 : TypeId) (x5 y5 x6 y6 : Operand) (h5 : o5.op = .store t5 x5 y5) (h6 : o6.op = .store t6 x6 y6)
    (b5 b6 : Nat) (cs5 cs6 old5 old6 : Array Value) (u5 u6 : TypeId)
    (e5 : A.eval x5 = .pointer (some ⟨b5, 0, none⟩)) (z5 : A.eval y5 = .agg cs5) (hg5 : w.drew.heap[b5]? = some (.cells old5 u5 (0, 0))) (i5 : (P.info? t5).map (·.size) = some cs5.size) (l5 : old5.size = cs5.size) (n5 : cs5.all (·.oneCell') = true) (S5 : S (w.drew.setRow b5 cs5))
    (e6 : A5.eval x6 = .pointer (some ⟨b6, 0, none⟩)) (z6 : A5.eval y6 = .agg cs6) (hg6 : (w.drew.setRow b5 cs5).heap[b6]? = some (.cells old6 u6 (0, 0))) (i6 : (P.info? t6).map (·.size) = some cs6.size) (l6 : old6.size = cs6.size) (n6 : cs6.all (·.oneCell') = true) (S6 : S ((w.drew.setRow b5 cs5).setRow b6 cs6))
    (hy7 : YieldsIf P #[o0, o1, o2, o3, o4, o5, o6, o7] S o7 v7 A6)
    (h : Q .normal A7 ((w.drew.setRow b5 cs5).setRow b6 cs6)) :
    (Code.region id #[o0, o1, o2, o3, o4, o5, o6, o7] true).wp P Q a w := by
  subst p0 p1 p2 p3 p4 p5 p6 p7
  refine wp_region_noPanic ?_
  refine wp_region_held_drew (S := S) hm hS (fun hH => ?_)
  show wpAnyH P .any #[o0, o1, o2, o3, o4, o5, o6, o7] (NoPanic Q) S 8 #[false, false, false, false, false, false, false, false] a w.drew
  refine wpAnyH_take (i := 0) (oi := o0) rfl hs f0 r0 (fun _ _ _ h => h) hy0 hS ?_
  refine wpAnyH_take (i := 1) (oi := o1) rfl hs f1 r1 (fun _ _ _ h => h) hy1 hS ?_
  refine wpAnyH_take (i := 2) (oi := o2) rfl hs f2 r2 (fun _ _ _ h => h) hy2 hS ?_
  refine wpAnyH_take (i := 3) (oi := o3) rfl hs f3 r3 (fun _ _ _ h => h) hy3 hS ?_
  refine wpAnyH_take (i := 4) (oi := o4) rfl hs f4 r4 (fun _ _ _ h => h) hy4 hS ?_
  refine wpAnyH_ready (rs := [5]) r5 (by simp) (AllReadyH.cons (o := o5) rfl (fun K hK => ?_) AllReadyH.nil)
  have w5 : ∀ y, Region.wanted o5 y = true := fun y => by unfold Region.wanted; rw [g5]
  rw [if_pos (w5 _)]
  refine wp_store_row t5 x5 y5 h5 b5 cs5 e5 z5 u5 old5 hg5 i5 l5 n5 ?_
  refine hK.out _ _ S5 (fun _ => ?_)
  refine wpAnyH_ready (rs := [6]) r6 (by simp) (AllReadyH.cons (o := o6) rfl (fun K hK => ?_) AllReadyH.nil)
  have w6 : ∀ y, Region.wanted o6 y = true := fun y => by unfold Region.wanted; rw [g6]
  rw [if_pos (w6 _)]
  refine wp_store_row t6 x6 y6 h6 b6 cs6 e6 z6 u6 old6 hg6 i6 l6 n6 ?_
  refine hK.out _ _ S6 (fun _ => ?_)
  refine wpAnyH_take (i := 7) (oi := o7) rfl hs f7 r7 (fun _ _ _ h => h) hy7 S6 ?_
  exact ⟨r8, NoPanic.normal h⟩
end
end Go.Proofs.YtbljofojeagdkaaDoor
namespace Go.Proofs.YtbljofojeagdkaaDoor
open Go.RowKit Go.BigFrame
set_option linter.unusedVariables false
set_option linter.unusedSimpArgs false

theorem rootsE_f {z : Int} {old : List Nat} {m n : Nat} {p : List (List Nat)} (h : formedE z (old :: p) ≠ 0) : rootsE z old m n p = formedE z (old :: p) ∧ rootsD z old m n p = (zD, zD) := by
  have e : rootsE z old m n p = formedE z (old :: p) := by unfold rootsE; rw [if_pos h]
  exact ⟨e, by unfold rootsD; rw [e, if_neg h]⟩
theorem rootsE_r {z : Int} {old : List Nat} {m n : Nat} {p : List (List Nat)} (h : formedE z (old :: p) = 0) (hr : m = 0 ∨ n ≤ m) : rootsE z old m n p = 4 ∧ rootsD z old m n p = (zD, zD) := by
  have e : rootsE z old m n p = 4 := by unfold rootsE; rw [if_neg (by omega), if_pos hr]
  exact ⟨e, by unfold rootsD; rw [e, if_neg (by decide)]⟩
theorem rootsE_c {z : Int} {old : List Nat} {m n : Nat} {p : List (List Nat)} (h : formedE z (old :: p) = 0) (hr : ¬ (m = 0 ∨ n ≤ m)) : rootsE z old m n p = opF (twD z old p.reverse m n true) ∧ rootsD z old m n p = opP (twD z old p.reverse m n true) := by
  have e : rootsE z old m n p = opF (twD z old p.reverse m n true) := by unfold rootsE; rw [if_neg (by omega), if_neg hr]; rfl
  refine ⟨e, ?_⟩
  unfold rootsD
  rw [e]
  unfold opF opP twO
  cases twD z old p.reverse m n true <;> rfl
theorem rootsD_dg {z : Int} {old : List Nat} {m n : Nat} {p : List (List Nat)} (hl : Dg old) (hp : ∀ d ∈ p, Dg d) : Dg (rootsD z old m n p).1 ∧ Dg (rootsD z old m n p).2 := by
  by_cases h : formedE z (old :: p) = 0
  · obtain ⟨hw, hf⟩ := formedE_zero h
    by_cases hr : m = 0 ∨ n ≤ m
    · rw [(rootsE_r h hr).2]; exact ⟨zD_dg, zD_dg⟩
    · rw [(rootsE_c h hr).2]
      refine opP_dg fun d hd => ?_
      have := twD_ok hw hl (hf old (by simp)) _ _ _ _ d (fun y hy => ⟨hp y (List.mem_reverse.1 hy), hf y (by simp at hy; simp [hy])⟩) hd
      exact ⟨this.1.1, this.2.1⟩
  · rw [(rootsE_f h).2]; exact ⟨zD_dg, zD_dg⟩
theorem results_cell_cell_tmp {P : Program} {fn : Func} {p p2 q : Tmp} {ty ty2 : TypeId} (h : fn.results = #[.cell p ty, .cell p2 ty2, .tmp q]) (tmps : Array Value) (w : World) (g g2 : Nat) (t t2 : TypeId) (cs cs2 : Array Value) (fr fr2 : Nat × Nat) (d d2 : TypeDesc)
    (hp : tmps.getD p undef = .pointer (some ⟨g, 0, none⟩)) (hg : w.heap[g]? = some (.cells cs t fr)) (hp2 : tmps.getD p2 undef = .pointer (some ⟨g2, 0, none⟩)) (hg2 : w.heap[g2]? = some (.cells cs2 t2 fr2))
    (hu : P.underlying ty = some d) (hd : (match d with | .struct _ | .array _ _ => true | _ => false) = true) (hi : (P.info? ty).map (·.size) = some cs.size)
    (hu2 : P.underlying ty2 = some d2) (hd2 : (match d2 with | .struct _ | .array _ _ => true | _ => false) = true) (hi2 : (P.info? ty2).map (·.size) = some cs2.size) (v : Value) (hq : tmps.getD q undef = v) :
    (results fn tmps).run P w = .ok (.tuple #[.agg cs, .agg cs2, v]) w := by
  have hp' : tmps[p]?.getD undef = .pointer (some ⟨g, 0, none⟩) := by simpa using hp
  have hp2' : tmps[p2]?.getD undef = .pointer (some ⟨g2, 0, none⟩) := by simpa using hp2
  have hq' : tmps[q]?.getD undef = v := by simpa using hq
  simp [results, h, hp', hp2', hq', asAddr, run_loadVar_row w g t ty cs fr d hg hu hd hi, run_loadVar_row w g2 t2 ty2 cs2 fr2 d2 hg2 hu2 hd2 hi2]

theorem there_zb {w : World} {g n : Nat} {t : TypeId} (h : w.heap[g]? = some (.cells (zb n) t (0, 0))) : w.there g 0 n := fun j hj =>
  ⟨by rw [cell_of_row w g (0 + j) _ t _ h, Nat.zero_add]; simp [zb, brow, hj], frozen_of_row _ _ _ _ _ h⟩
theorem lt_of_heap {w : World} {g : Nat} {o : Obj} (h : w.heap[g]? = some o) : g < w.heap.size := (Array.getElem?_eq_some_iff.1 h).1

set_option maxRecDepth 100000 in
set_option maxHeartbeats 2000000 in
theorem rootsOf_any (z : Int) (m n : Nat) (old : List Nat) (pv : Value) (p : List (List Nat)) (w : World) (hz : -9223372036854775808 ≤ z ∧ z ≤ 9223372036854775807) (hl : Dg old) (hm : m < 18446744073709551616) (hn : n < 18446744073709551616) (hp : RdD w pv p) (hT : Tabs w) :
    Calls Tryd.prog 11 #[.int .i64 z, .int .u64 m, .int .u64 n, .agg (brow old), pv] w fun e w' => e = .returned (.tuple #[.agg (brow (rootsD z old m n p).1), .agg (brow (rootsD z old m n p).2), .int .i64 (rootsE z old m n p)]) ∧ Kept [] w w' := by
  have HP := hide hp
  have hdg := rootsD_dg (z := z) (m := m) (n := n) hl (fun d hd => hp.dg hd)
  obtain ⟨ao, len, cap, rfl, h1, h2, h3, h4, h5⟩ := hp
  clear h4 h5
  have HT := hide hT
  have HL := hide hl
  have hll := hl.1
  clear hT
  obtain ⟨D, hD⟩ : ∃ D, rootsD z old m n p = D := ⟨_, rfl⟩
  obtain ⟨E, hE⟩ : ∃ E, rootsE z old m n p = E := ⟨_, rfl⟩
  have HD := hide hD
  have HE := hide hE
  rw [hD] at hdg
  rw [hD, hE]
  clear hD hE
  obtain ⟨D1, D2⟩ := D
  have hd1 := hdg.1.1
  have hd2 := hdg.2.1
  simp only at hd1 hd2 ⊢
  clear hdg
  go_enter Tryd.func11, Tryd.ntmps11
  have HGL := hide ((((Kept.refl [] (w.alloc (.cells (brow old) 23))).alloc (.cells (zb 32) 23)).alloc (.cells (zb 32) 23)).heap (heap_alloc_new w (.cells (brow old) 23)) (by simp))
  have HGZ := hide (((Kept.refl [] ((w.alloc (.cells (brow old) 23)).alloc (.cells (zb 32) 23))).alloc (.cells (zb 32) 23)).heap (alloc_at w (.cells (brow old) 23) (.cells (zb 32) 23)) (by simp))
  have HGY := hide (alloc3_at w (.cells (brow old) 23) (.cells (zb 32) 23) (.cells (zb 32) 23))
  have HK0 := hide ((((Kept.refl [] w).alloc (.cells (brow old) 23)).alloc (.cells (zb 32) 23)).alloc (.cells (zb 32) 23))
  have HSL := hide (by rw [List.length_map, hll]; exact Tryd.size_dig : (Tryd.prog.info? 23).map (·.size) = some (old.map u8).length)
  go_wp2_with (refine wpList_load_mid rfl 23 _ rfl w.heap.size 0 rfl (old.map u8) _ (range_row (unhide HGL)) Tryd.underlying23 rfl (unhide HSL) ?_)
  rw [zb32, one_dig old hll]
  obtain ⟨W0, hW0⟩ : ∃ W0, ((w.alloc (.cells (brow old) 23)).alloc (.cells (zb 32) 23)).alloc (.cells (zb 32) 23) = W0 := ⟨_, rfl⟩
  have hsz : w.heap.size + 1 + 1 + 1 = W0.heap.size := by rw [← hW0]; simp
  rw [hW0] at HGL HGZ HGY HK0 ⊢
  have k0 := (Kept.refl [] W0).alloc (.cells (brow old) 23)
  refine Calls.mono (mformed_any z _ _ p [old] _ hz ((unhide HP).old ((unhide HK0).trans k0 (by simp))) (RdD.one (by rw [hsz]; exact heap_alloc_new _ _) (unhide HL))) ?_
  rintro e w1 ⟨rfl, k1⟩
  have k01 := k0.trans k1 (by simp)
  have HK1 := hide ((unhide HK0).trans k01 (by simp))
  have HL1 := hide (k01.heap (unhide HGL) (by simp))
  have HZ1 := hide (k01.heap (unhide HGZ) (by simp))
  have HY1 := hide (k01.heap (unhide HGY) (by simp))
  clear k0 k1 k01 HGL HGZ HGY hW0
  obtain ⟨f, hf⟩ : ∃ f, formedE z ([old] ++ p) = f := ⟨_, rfl⟩
  have HF := hide (show formedE z (old :: p) = f from hf)
  rw [hf]
  clear hf
  by_cases hf0 : f = 0
  · subst hf0
    obtain ⟨hw, hff⟩ := formedE_zero (unhide HF)
    have HFF := hide hff
    clear hff
    by_cases hr : m = 0 ∨ n ≤ m
    · have HC := hide (by rw [← unhide HE, ← unhide HD]; exact rootsE_r (unhide HF) hr : E = 4 ∧ (D1, D2) = (zD, zD))
      have HYD := hide ((setRow_other w1 (w.heap.size + 1) (w.heap.size + 1 + 1) (zb 32) (by omega)).trans (unhide HY1))
      have HKK := hide (((unhide HK1).setRow (g := w.heap.size + 1) (Or.inr (by omega)) (zb 32)).setRow (g := w.heap.size + 1 + 1) (Or.inr (by omega)) (zb 32))
      have HZR := hide ((setRow_other (w1.setRow (w.heap.size + 1) (zb 32)) (w.heap.size + 1 + 1) (w.heap.size + 1) (zb 32) (by omega)).trans (setRow_heap w1 _ _ (zb 32) _ _ (unhide HZ1)))
      have HYR := hide (setRow_heap (w1.setRow (w.heap.size + 1) (zb 32)) _ _ (zb 32) _ _ (unhide HYD))
      by_cases hm0 : m = 0
      · have hr1 : ((m : Int) == 0) = true := by simp; omega
        go_wp2_with (first
          | (rw [zb32]; refine wpList_store_row rfl 23 _ _ rfl (w.heap.size + 1) (zb 32) rfl rfl _ (zb 32) (unhide HZ1) (by rw [zb_size]; exact Tryd.size_dig) rfl (brow_one _) ?_)
          | (refine wpList_store_row rfl 23 _ _ rfl (w.heap.size + 1 + 1) (zb 32) rfl rfl _ (zb 32) (unhide HYD) (by rw [zb_size]; exact Tryd.size_dig) rfl (brow_one _) ?_))
        rw [(unhide HC).1]
        have HC1 := hide (Prod.mk.inj (unhide HC).2).1
        have HC2 := hide (Prod.mk.inj (unhide HC).2).2
        rw [unhide HC1, unhide HC2]
        refine bodyPost_ret (v := .tuple #[.agg (zb 32), .agg (zb 32), .int .i64 4]) ?_ rfl ⟨rfl, unhide HKK⟩
        exact results_cell_cell_tmp rfl _ _ (w.heap.size + 1) (w.heap.size + 1 + 1) _ _ (zb 32) (zb 32) (0, 0) (0, 0) _ _ rfl (unhide HZR) rfl (unhide HYR) Tryd.underlying23 rfl (by rw [zb_size]; exact Tryd.size_dig) Tryd.underlying23 rfl (by rw [zb_size]; exact Tryd.size_dig) _ rfl
      · have hr1 : ((m : Int) == 0) = false := by simp; omega
        have hr2 : (n : Int) ≤ m := by omega
        go_wp2_with (first
          | (rw [zb32]; refine wpList_store_row rfl 23 _ _ rfl (w.heap.size + 1) (zb 32) rfl rfl _ (zb 32) (unhide HZ1) (by rw [zb_size]; exact Tryd.size_dig) rfl (brow_one _) ?_)
          | (refine wpList_store_row rfl 23 _ _ rfl (w.heap.size + 1 + 1) (zb 32) rfl rfl _ (zb 32) (unhide HYD) (by rw [zb_size]; exact Tryd.size_dig) rfl (brow_one _) ?_))
        rw [(unhide HC).1]
        have HC1 := hide (Prod.mk.inj (unhide HC).2).1
        have HC2 := hide (Prod.mk.inj (unhide HC).2).2
        rw [unhide HC1, unhide HC2]
        refine bodyPost_ret (v := .tuple #[.agg (zb 32), .agg (zb 32), .int .i64 4]) ?_ rfl ⟨rfl, unhide HKK⟩
        exact results_cell_cell_tmp rfl _ _ (w.heap.size + 1) (w.heap.size + 1 + 1) _ _ (zb 32) (zb 32) (0, 0) (0, 0) _ _ rfl (unhide HZR) rfl (unhide HYR) Tryd.underlying23 rfl (by rw [zb_size]; exact Tryd.size_dig) Tryd.underlying23 rfl (by rw [zb_size]; exact Tryd.size_dig) _ rfl
    · have hr1 : ((m : Int) == 0) = false := by simp; omega
      have hr2 : ¬ (n : Int) ≤ m := by omega
      have HC := hide (by rw [← unhide HE, ← unhide HD]; exact rootsE_c (unhide HF) hr : E = opF (twD z old p.reverse m n true) ∧ (D1, D2) = opP (twD z old p.reverse m n true))
      go_wp2_with (refine wpList_load_mid rfl 23 _ rfl w.heap.size 0 rfl (old.map u8) _ (range_row (unhide HL1)) Tryd.underlying23 rfl (unhide HSL) ?_)
      refine Calls.mono (climbBoth_any z old hz hw (unhide HL) (unhide HFF old (by simp)) p.reverse m n true _ _ (by omega) (by omega) hn (by rw [List.reverse_reverse]; exact (unhide HP).old (unhide HK1)) (fun y hy => unhide HFF y (by simp at hy; simp [hy])) ((unhide HT).k (unhide HK1))) ?_
      rintro e w2 ⟨rfl, k2⟩
      rw [← (unhide HC).1, ← (unhide HC).2]
      have HZ2 := hide (k2.heap (unhide HZ1) (by simp))
      have HY2 := hide (k2.heap (unhide HY1) (by simp))
      have HK2 := hide ((unhide HK1).trans k2 (by simp))
      have HZ2' := HZ2
      have HY2' := HY2
      clear k2 HZ1 HL1 HY1
      have hOs : (pw (D1, D2)).size = 64 := pw_size hd1 hd2
      have HSO := hide (by rw [hOs]; exact Tryd.size_roots : (Tryd.prog.info? 65).map (·.size) = some (pw (D1, D2)).size)
      have HNW := hide (setRow_heap (w2.alloc (.cells (zb 64) 65)) w2.heap.size (zb 64) (pw (D1, D2)) 65 (0, 0) (heap_alloc_new _ _))
      have k5 := ((Kept.refl [] w2).alloc (.cells (zb 64) 65)).setRow (g := w2.heap.size) (Or.inr (Nat.le_refl _)) (pw (D1, D2))
      have HZ5 := hide (k5.heap (unhide HZ2) (by simp))
      have HY5 := hide (k5.heap (unhide HY2) (by simp))
      have HK5 := hide ((unhide HK2).trans k5 (by simp))
      have HR1 := hide (pw_ranges (unhide HNW) hd1).1
      have HR2 := hide (pw_ranges (unhide HNW) hd1).2
      clear k5 HZ2 HY2
      go_wp2_with (rw [zb64]; refine wpList_store_row rfl 65 _ _ rfl w2.heap.size (pw (D1, D2)) rfl rfl _ (zb 64) (heap_alloc_new _ _) (unhide HSO) (by rw [zb_size, hOs]) (pw_one _) ?_)
      obtain ⟨W5, hW5⟩ : ∃ W5, (w2.alloc (.cells (zb 64) 65)).setRow w2.heap.size (pw (D1, D2)) = W5 := ⟨_, rfl⟩
      have hs2 := (unhide HK2).size
      have hlt1 : w.heap.size + 1 < w2.heap.size := by have := lt_of_heap (unhide HZ2'); omega
      rw [hW5] at HZ5 HY5 HK5 HR1 HR2 ⊢
      have hud := Tryd.underlying23
      have hi1 : (Tryd.prog.info? 23).map (·.size) = some (D1.map u8).length := by rw [List.length_map, hd1]; exact Tryd.size_dig
      have hi2 : (Tryd.prog.info? 23).map (·.size) = some (D2.map u8).length := by rw [List.length_map, hd2]; exact Tryd.size_dig
      have hr1 := unhide HR1
      have hr2 := unhide HR2
      have hlt2 : w.heap.size + 1 + 1 < w2.heap.size := by have := lt_of_heap (unhide HY2'); omega
      have HYD := hide ((setRow_other W5.drew (w.heap.size + 1) (w.heap.size + 1 + 1) (brow D1) (by omega)).trans (unhide HY5))
      have kA := (Kept.refl [w.heap.size + 1] W5.drew).setRow (g := w.heap.size + 1) (by simp) (brow D1)
      have kB := (Kept.refl [w.heap.size + 1 + 1] (W5.drew.setRow (w.heap.size + 1) (brow D1))).setRow (g := w.heap.size + 1 + 1) (by simp) (brow D2)
      have hH6 : (W5.drew.setRow (w.heap.size + 1) (brow D1)).rangeAt w2.heap.size 0 (D1.map u8) ∧ (W5.drew.setRow (w.heap.size + 1) (brow D1)).rangeAt w2.heap.size 32 (D2.map u8) := And.intro (range_kept (w := W5.drew) hr1 kA (by simp; omega)) (range_kept (w := W5.drew) hr2 kA (by simp; omega))
      have hH7 := And.intro (range_kept hH6.1 kB (by simp; omega)) (range_kept hH6.2 kB (by simp; omega))
      have HKK := hide ((((unhide HK5).drew).setRow (g := w.heap.size + 1) (Or.inr (by omega)) (brow D1)).setRow (g := w.heap.size + 1 + 1) (Or.inr (by omega)) (brow D2))
      have HZR := hide ((setRow_other (W5.drew.setRow (w.heap.size + 1) (brow D1)) (w.heap.size + 1 + 1) (w.heap.size + 1) (brow D2) (by omega)).trans (setRow_heap W5.drew _ _ (brow D1) _ _ (unhide HZ5)))
      have HYR := hide (setRow_heap (W5.drew.setRow (w.heap.size + 1) (brow D1)) _ _ (brow D2) _ _ (unhide HYD))
      clear kA kB
      refine wp_ret8 (fun w' => w'.rangeAt w2.heap.size 0 (D1.map u8) ∧ w'.rangeAt w2.heap.size 32 (D2.map u8)) (by kernel_rfl) (by kernel_rfl) (by kernel_rfl) (by kernel_rfl) (by kernel_rfl) (by kernel_rfl) (by kernel_rfl) (by kernel_rfl) (by kernel_rfl) (by kernel_rfl) (by kernel_rfl) (by kernel_rfl) (by kernel_rfl) (by kernel_rfl) (by kernel_rfl) (by kernel_rfl) (by kernel_rfl) rfl rfl
        ⟨hr1, hr2⟩ (.pointer (some ⟨w2.heap.size, 0, none⟩)) (.agg (D1.map u8).toArray) (.pointer (some ⟨w2.heap.size, 32, none⟩)) (.agg (D2.map u8).toArray) (.int .i64 E) (.int .i64 E)
        _ _ _ _ _ _ _ _ (by simp only [Act.put, List.setIfInBounds_toArray, List.set_cons_zero, List.set_cons_succ]; rfl) (by simp only [Act.put, List.setIfInBounds_toArray, List.set_cons_zero, List.set_cons_succ]; rfl) (by simp only [Act.put, List.setIfInBounds_toArray, List.set_cons_zero, List.set_cons_succ]; rfl) (by simp only [Act.put, List.setIfInBounds_toArray, List.set_cons_zero, List.set_cons_succ]; rfl) (by simp only [Act.put, List.setIfInBounds_toArray, List.set_cons_zero, List.set_cons_succ]; rfl) (by simp only [Act.put, List.setIfInBounds_toArray, List.set_cons_zero, List.set_cons_succ]; rfl) (by simp only [Act.put, List.setIfInBounds_toArray, List.set_cons_zero, List.set_cons_succ]; rfl) (by simp only [Act.put, List.setIfInBounds_toArray, List.set_cons_zero, List.set_cons_succ]; rfl)
        (by exact Or.inl ⟨by rfl, fun W hW => by go_simp⟩)
        (by exact yieldsIf_load_mid (by rfl) _ _ rfl w2.heap.size 0 rfl (D1.map u8) _ (fun W hW => hW.1) Tryd.underlying23 rfl hi1)
        (by exact Or.inl ⟨by rfl, fun W hW => by go_simp⟩)
        (by exact yieldsIf_load_mid (by rfl) _ _ rfl w2.heap.size 32 rfl (D2.map u8) _ (fun W hW => hW.2) Tryd.underlying23 rfl hi2)
        (by exact Or.inl ⟨by rfl, fun W hW => by go_simp⟩)
        23 23 _ _ _ _ rfl rfl (w.heap.size + 1) (w.heap.size + 1 + 1) (brow D1) (brow D2) (zb 32) (zb 32) 23 23
        (by rfl) (by rfl) (unhide HZ5) (by rw [brow_size, hd1]; exact Tryd.size_dig) (by rw [zb_size, brow_size, hd1]) (brow_one _) hH6
        (by rfl) (by rfl) (unhide HYD) (by rw [brow_size, hd2]; exact Tryd.size_dig) (by rw [zb_size, brow_size, hd2]) (brow_one _) hH7
        (by exact Or.inl ⟨by rfl, fun W hW => by go_simp⟩) ?_
      go_wp2_with fail
      refine bodyPost_ret (v := .tuple #[.agg (brow D1), .agg (brow D2), .int .i64 E]) ?_ rfl ⟨rfl, unhide HKK⟩
      exact results_cell_cell_tmp rfl _ _ (w.heap.size + 1) (w.heap.size + 1 + 1) _ _ (brow D1) (brow D2) (0, 0) (0, 0) _ _ rfl (unhide HZR) rfl (unhide HYR) Tryd.underlying23 rfl (by rw [brow_size, hd1]; exact Tryd.size_dig) Tryd.underlying23 rfl (by rw [brow_size, hd2]; exact Tryd.size_dig) _ rfl
  · have hb : ((f : Int) != 0) = true := by simp; omega
    have HC := hide (by rw [← unhide HE, ← unhide HD, ← unhide HF]; exact rootsE_f (by rw [unhide HF]; exact hf0) : E = f ∧ (D1, D2) = (zD, zD))
    have HYD := hide ((setRow_other w1 (w.heap.size + 1) (w.heap.size + 1 + 1) (zb 32) (by omega)).trans (unhide HY1))
    have HKK := hide (((unhide HK1).setRow (g := w.heap.size + 1) (Or.inr (by omega)) (zb 32)).setRow (g := w.heap.size + 1 + 1) (Or.inr (by omega)) (zb 32))
    have HZR := hide ((setRow_other (w1.setRow (w.heap.size + 1) (zb 32)) (w.heap.size + 1 + 1) (w.heap.size + 1) (zb 32) (by omega)).trans (setRow_heap w1 _ _ (zb 32) _ _ (unhide HZ1)))
    have HYR := hide (setRow_heap (w1.setRow (w.heap.size + 1) (zb 32)) _ _ (zb 32) _ _ (unhide HYD))
    go_wp2_with (first
      | (rw [zb32]; refine wpList_store_row rfl 23 _ _ rfl (w.heap.size + 1) (zb 32) rfl rfl _ (zb 32) (unhide HZ1) (by rw [zb_size]; exact Tryd.size_dig) rfl (brow_one _) ?_)
      | (refine wpList_store_row rfl 23 _ _ rfl (w.heap.size + 1 + 1) (zb 32) rfl rfl _ (zb 32) (unhide HYD) (by rw [zb_size]; exact Tryd.size_dig) rfl (brow_one _) ?_))
    rw [(unhide HC).1]
    have HC1 := hide (Prod.mk.inj (unhide HC).2).1
    have HC2 := hide (Prod.mk.inj (unhide HC).2).2
    rw [unhide HC1, unhide HC2]
    refine bodyPost_ret (v := .tuple #[.agg (zb 32), .agg (zb 32), .int .i64 f]) ?_ rfl ⟨rfl, unhide HKK⟩
    exact results_cell_cell_tmp rfl _ _ (w.heap.size + 1) (w.heap.size + 1 + 1) _ _ (zb 32) (zb 32) (0, 0) (0, 0) _ _ rfl (unhide HZR) rfl (unhide HYR) Tryd.underlying23 rfl (by rw [zb_size]; exact Tryd.size_dig) Tryd.underlying23 rfl (by rw [zb_size]; exact Tryd.size_dig) _ rfl
end Go.Proofs.YtbljofojeagdkaaDoor
namespace Go.Proofs.YtbljofojeagdkaaDoor
open Go.RowKit Go.BigFrame
set_option linter.unusedVariables false
set_option linter.unusedSimpArgs false

theorem formedE_ok {z : Int} {ds : List (List Nat)} (hw : widthB z = true) (h : ∀ d ∈ ds, formB z d = true) : formedE z ds = 0 := by
  unfold formedE
  rw [if_neg (by rw [hw]; simp), if_pos (List.all_eq_true.2 h)]
theorem spl_bel (n : Nat) : spl n = belT n := rfl
theorem cl_path (z : Int) (leaf : List Nat) (i : Nat) : ∀ (c : Nat) (p : List (List Nat)) (lo hi : Nat), lo ≤ i → i < hi → hi - lo ≤ 2 ^ c → (clD z leaf p (i - lo) (hi - lo)).isSome = decide (p.length = (pathF i c lo hi).length)
  | c, p, lo, hi, h1, h2, h3 => by
    by_cases hone : hi - lo = 1
    · rw [pathF_one i c (by omega)]
      cases p with
      | nil => simp [clD, hone]
      | cons d r => simp [clD, hone]
    · cases c with
      | zero => simp at h3; omega
      | succ c =>
        have hb := belT_lt (n := hi - lo) (by omega)
        have hh := belT_half (n := hi - lo) (c := c) (by omega) h3
        cases p with
        | nil =>
          have hne : pathF i (c + 1) lo hi ≠ [] := by
            by_cases hs : i < lo + belT (hi - lo)
            · rw [pathF_l (by omega) hs]; simp
            · rw [pathF_r (by omega) hs]; simp
          have : ¬ (0 = (pathF i (c + 1) lo hi).length) := fun e => hne (List.length_eq_zero_iff.1 e.symm)
          simp [clD, hone, this]
        | cons d r =>
          unfold clD
          rw [if_neg hone, spl_bel]
          by_cases hs : i < lo + belT (hi - lo)
          · rw [if_pos (by omega), Option.isSome_map, pathF_l (by omega) hs, List.length_append]
            have ih := cl_path z leaf i c r lo (lo + belT (hi - lo)) h1 hs (by omega)
            rw [Nat.add_sub_cancel_left] at ih
            rw [ih]
            simp
          · rw [if_neg (by omega), Option.isSome_map, pathF_r (by omega) hs, List.length_append]
            have ih := cl_path z leaf i c r (lo + belT (hi - lo)) hi (by omega) h2 (by omega)
            rw [show i - (lo + belT (hi - lo)) = i - lo - belT (hi - lo) by omega, show hi - (lo + belT (hi - lo)) = hi - lo - belT (hi - lo) by omega] at ih
            rw [ih]
            simp
theorem tw_seam (z : Int) (old : List Nat) (m : Nat) : ∀ (c : Nat) (p : List (List Nat)) (lo hi : Nat) (wh : Bool), lo < m → m ≤ hi → hi - lo ≤ 2 ^ c → (twD z old p (m - lo) (hi - lo) wh).isSome = decide (p.length = (seamF m c lo hi wh).length)
  | c, p, lo, hi, wh, h1, h2, h3 => by
    by_cases hone : m = hi
    · rw [seamF_end hone]
      subst hone
      cases p with
      | nil => cases wh <;> simp [twD]
      | cons d r =>
        cases wh with
        | true => simp [twD]
        | false =>
          cases r with
          | nil => simp [twD]
          | cons x y => simp [twD]
    · cases c with
      | zero => simp at h3; omega
      | succ c =>
        have hb := belT_lt (n := hi - lo) (by omega)
        have hh := belT_half (n := hi - lo) (c := c) (by omega) h3
        cases p with
        | nil =>
          have hne : seamF m (c + 1) lo hi wh ≠ [] := by
            by_cases hs : m ≤ lo + belT (hi - lo)
            · rw [seamF_l hone hs]; simp
            · rw [seamF_r hone hs]; simp
          have : ¬ (0 = (seamF m (c + 1) lo hi wh).length) := fun e => hne (List.length_eq_zero_iff.1 e.symm)
          have h9 : ¬ (m - lo = hi - lo) := by omega
          simp [twD, this, h9]
        | cons d r =>
          unfold twD
          rw [if_neg (by omega), spl_bel]
          by_cases hs : m ≤ lo + belT (hi - lo)
          · rw [if_pos (by omega), Option.isSome_map, seamF_l hone hs, List.length_append]
            have ih := tw_seam z old m c r lo (lo + belT (hi - lo)) wh h1 hs (by omega)
            rw [Nat.add_sub_cancel_left] at ih
            rw [ih]
            simp
          · rw [if_neg (by omega), Option.isSome_map, seamF_r hone hs, List.length_append]
            have ih := tw_seam z old m c r (lo + belT (hi - lo)) hi false (by omega) h2 (by omega)
            rw [show m - (lo + belT (hi - lo)) = m - lo - belT (hi - lo) by omega, show hi - (lo + belT (hi - lo)) = hi - lo - belT (hi - lo) by omega] at ih
            rw [ih]
            simp
/-- RootOf's error, of a proof that is formed. -/
theorem rootE_len {z : Int} {leaf : List Nat} {i n : Nat} {p : List (List Nat)} (hf : formedE z (leaf :: p) = 0) (hi : i < n) (hn : n < 18446744073709551616) : rootE z leaf i n p = if p.length = (pathF i 64 0 n).length then 0 else 10 := by
  unfold rootE clO
  rw [if_neg (by omega), if_neg (by omega)]
  have h := cl_path z leaf i 64 p.reverse 0 n (by omega) hi (by omega)
  rw [Nat.sub_zero, Nat.sub_zero, List.length_reverse] at h
  rw [h]
  simp
theorem rootsE_len {z : Int} {old : List Nat} {m n : Nat} {p : List (List Nat)} (hf : formedE z (old :: p) = 0) (h0 : 0 < m) (hm : m < n) (hn : n < 18446744073709551616) : rootsE z old m n p = if p.length = (smL m n).length then 0 else 10 := by
  have hs : smL m n = seamF m 64 0 n true := by unfold smL; rw [if_neg (by omega)]
  rw [hs]
  unfold rootsE twO
  rw [if_neg (by omega), if_neg (by omega)]
  have h := tw_seam z old m 64 p.reverse 0 n true h0 (by omega) (by omega)
  rw [Nat.sub_zero, Nat.sub_zero, List.length_reverse] at h
  rw [h]
  simp
end Go.Proofs.YtbljofojeagdkaaDoor
namespace Go.Proofs.YtbljofojeagdkaaDoor
open Go.RowKit Go.BigFrame
set_option linter.unusedVariables false
set_option linter.unusedSimpArgs false

theorem rngD_oneH {z : Int} {no : List Nat} {L : List (List Nat)} {lo : Nat} (h : lo < L.length) : rngD z no L lo (lo + 1) = L.getD lo [] := by
  unfold rngD
  rw [Nat.add_sub_cancel_left, List.drop_eq_getElem_cons h, List.take_succ_cons, List.take_zero, logT_one, List.getD_eq_getElem?_getD, List.getElem?_eq_getElem h]
  rfl
theorem belT_same {n k : Nat} (hn : 2 ≤ n) (h1 : belT n < k) (h2 : k ≤ n) : belT k = belT n := by
  have hb := belT_lt hn
  unfold belT at h1 hb ⊢
  congr 1
  rw [Nat.log2_eq_iff (by omega)]
  have hlt := Nat.lt_log2_self (n := n - 1)
  rw [Nat.pow_succ] at hlt ⊢
  omega
/-- The proof of a leaf leads to the root. -/
theorem cl_val (z : Int) (no : List Nat) (L : List (List Nat)) (i : Nat) : ∀ (c lo hi : Nat), lo ≤ i → i < hi → hi ≤ L.length → hi - lo ≤ 2 ^ c → clD z (L.getD i []) ((pathF i c lo hi).map fun s => rngD z no L s.1 s.2).reverse (i - lo) (hi - lo) = some (rngD z no L lo hi)
  | c, lo, hi, h1, h2, h0, h3 => by
    by_cases hone : hi - lo = 1
    · rw [pathF_one i c (by omega)]
      have e1 : i = lo := by omega
      have e2 : hi = lo + 1 := by omega
      subst e1
      subst e2
      rw [rngD_oneH (by omega)]
      simp [clD]
    · cases c with
      | zero => simp at h3; omega
      | succ c =>
        have hb := belT_lt (n := hi - lo) (by omega)
        have hh := belT_half (n := hi - lo) (c := c) (by omega) h3
        by_cases hs : i < lo + belT (hi - lo)
        · rw [pathF_l (by omega) hs, List.map_append, List.reverse_append, List.map_cons, List.map_nil, List.reverse_singleton, List.singleton_append]
          unfold clD
          rw [if_neg hone, spl_bel, if_pos (by omega)]
          have ih := cl_val z no L i c lo (lo + belT (hi - lo)) h1 hs (by omega) (by omega)
          rw [Nat.add_sub_cancel_left] at ih
          rw [ih, Option.map_some, rngD_cut (lo := lo) (hi := hi) (by omega) h0]
          rfl
        · rw [pathF_r (by omega) hs, List.map_append, List.reverse_append, List.map_cons, List.map_nil, List.reverse_singleton, List.singleton_append]
          unfold clD
          rw [if_neg hone, spl_bel, if_neg (by omega)]
          have ih := cl_val z no L i c (lo + belT (hi - lo)) hi (by omega) h2 h0 (by omega)
          rw [show i - (lo + belT (hi - lo)) = i - lo - belT (hi - lo) by omega, show hi - (lo + belT (hi - lo)) = hi - lo - belT (hi - lo) by omega] at ih
          rw [ih, Option.map_some, rngD_cut (lo := lo) (hi := hi) (by omega) h0]
          rfl
/-- The proof of a beginning leads to both roots. -/
theorem tw_val (z : Int) (no old : List Nat) (L : List (List Nat)) (m : Nat) : ∀ (c lo hi : Nat) (wh : Bool), lo < m → m ≤ hi → hi ≤ L.length → hi - lo ≤ 2 ^ c → (wh = true → old = rngD z no L lo m) → twD z old ((seamF m c lo hi wh).map fun s => rngD z no L s.1 s.2).reverse (m - lo) (hi - lo) wh = some (rngD z no L lo m, rngD z no L lo hi)
  | c, lo, hi, wh, h1, h2, h0, h3, hold => by
    by_cases hone : m = hi
    · rw [seamF_end hone]
      subst hone
      cases wh with
      | true => simp [twD, hold rfl]
      | false => simp [twD]
    · cases c with
      | zero => simp at h3; omega
      | succ c =>
        have hb := belT_lt (n := hi - lo) (by omega)
        have hh := belT_half (n := hi - lo) (c := c) (by omega) h3
        by_cases hs : m ≤ lo + belT (hi - lo)
        · rw [seamF_l hone hs, List.map_append, List.reverse_append, List.map_cons, List.map_nil, List.reverse_singleton, List.singleton_append]
          unfold twD
          rw [if_neg (by omega), spl_bel, if_pos (by omega)]
          have ih := tw_val z no old L m c lo (lo + belT (hi - lo)) wh h1 hs (by omega) (by omega) hold
          rw [Nat.add_sub_cancel_left] at ih
          rw [ih, Option.map_some, rngD_cut (lo := lo) (hi := hi) (by omega) h0]
          rfl
        · rw [seamF_r hone hs, List.map_append, List.reverse_append, List.map_cons, List.map_nil, List.reverse_singleton, List.singleton_append]
          unfold twD
          rw [if_neg (by omega), spl_bel, if_neg (by omega)]
          have ih := tw_val z no old L m c (lo + belT (hi - lo)) hi false (by omega) h2 h0 (by omega) (fun h => by simp at h)
          rw [show m - (lo + belT (hi - lo)) = m - lo - belT (hi - lo) by omega, show hi - (lo + belT (hi - lo)) = hi - lo - belT (hi - lo) by omega] at ih
          have hsame := belT_same (n := hi - lo) (k := m - lo) (by omega) (by omega) (by omega)
          rw [ih, Option.map_some, rngD_cut (lo := lo) (hi := hi) (by omega) h0, rngD_cut (lo := lo) (hi := m) (by omega) (by omega), hsame]
          rfl
theorem rgL_rng {z : Int} {L : List (List Nat)} {ss : List (Nat × Nat)} (h : ∀ s ∈ ss, s.1 < s.2 ∧ s.2 ≤ L.length) : (ss.map fun s => rgD z L s.1 s.2) = ss.map fun s => rngD z (noT z) L s.1 s.2 := by
  apply List.map_congr_left
  intro s hs
  have := h s hs
  exact if_neg (by omega)
theorem opD_some (x : List Nat) : opD (some x) = x := rfl
end Go.Proofs.YtbljofojeagdkaaDoor
namespace Go.Proofs.YtbljofojeagdkaaDoor
open Go.RowKit Go.BigFrame
set_option linter.unusedVariables false
set_option linter.unusedSimpArgs false

set_option maxRecDepth 100000 in
set_option maxHeartbeats 1000000 in
theorem twidth_any (n : Nat) (w : World) (hn : n < 256) :
    Calls Tryd.prog 21 #[.int .u8 n] w fun e w' => e = .returned (.int .i64 ((1 + n % 32 : Nat) : Int)) ∧ w' = w := by
  have h1 : IntKind.i64.wrap (n : Int) = n := by simp [IntKind.wrap, IntKind.signed, IntKind.bits]; omega
  obtain ⟨y, hy⟩ : ∃ y, n % 32 = y := ⟨_, rfl⟩
  have hy2 : (n : Int) % 32 = y := by omega
  have hy3 : (n : Int).tmod 32 = y := by rw [Int.tmod_eq_emod_of_nonneg (by omega)]; omega
  have hy32 : (y : Int) < 32 := by omega
  rw [hy]
  have HY := hide hy
  clear hy
  go_enter Tryd.func21, Tryd.ntmps21
  go_wp2
  go_ret
  exact ⟨by congr 2, rfl⟩

def cI (k i : Nat) (d : List Nat) : List Nat := (d.take k ++ List.replicate (i - k) 0) ++ d.drop i
theorem cI_len {k i : Nat} {d : List Nat} (h : k ≤ i) (hi : i ≤ 32) (hd : d.length = 32) : (cI k i d).length = 32 := by simp [cI, hd]; omega
theorem cI_set {k i : Nat} {d : List Nat} (h : k ≤ i) (hi : i < 32) (hd : d.length = 32) : (brow (cI k i d)).setIfInBounds i (.int .u8 0) = brow (cI k (i + 1) d) := by
  have hA : (d.take k ++ List.replicate (i - k) 0).length = i := by simp [hd]; omega
  have e1 : (cI k i d).set i 0 = cI k (i + 1) d := by
    unfold cI
    rw [List.set_append_right _ _ (by omega), hA, Nat.sub_self, List.drop_eq_getElem_cons (show i < d.length by omega), List.set_cons_zero, show i + 1 - k = (i - k) + 1 by omega, List.replicate_succ']
    simp
  rw [← e1]
  unfold brow
  rw [List.setIfInBounds_toArray, List.map_set]
  rfl
theorem cI_end {k : Nat} {d : List Nat} (hd : d.length = 32) : cI k 32 d = cutL k d := by unfold cI cutL; rw [List.drop_eq_nil_of_le (by omega), List.append_nil]
theorem cI_start {k : Nat} {d : List Nat} : cI k k d = d := by simp [cI]

set_option maxRecDepth 100000 in
set_option maxHeartbeats 1000000 in
theorem tcut_any (k : Nat) (d : List Nat) (w : World) (h1 : 1 ≤ k) (h2 : k ≤ 32) (hd : d.length = 32) (hb : ∀ x ∈ d, x < 256) :
    Calls Tryd.prog 39 #[.int .i64 k, .agg (brow d)] w fun e w' => e = .returned (.agg (brow (cutL k d))) ∧ Kept [] w w' := by
  have hcl := cutL_len k d h2 hd
  have HCE := hide (cI_end (k := k) hd)
  clear hb
  go_enter Tryd.func39, Tryd.ntmps39
  go_wp2_with fail
  rw [zb32]
  have HA := hide (heap_alloc2_old w (.cells (brow d) 23) (.cells (zb 32) 23))
  have HB := hide (heap_alloc2_new w (.cells (brow d) 23) (.cells (zb 32) 23))
  have HK := hide (((Kept.refl [] w).alloc (.cells (brow d) 23)).alloc (.cells (zb 32) 23))
  obtain ⟨W, hW⟩ : ∃ W, (w.alloc (.cells (brow d) 23)).alloc (.cells (zb 32) 23) = W := ⟨_, rfl⟩
  rw [hW] at HA HB HK ⊢
  clear hW
  go_loopw [5] (fun t wr => ∃ (i : Nat), k ≤ i ∧ i ≤ 32 ∧ t = .int .i64 i ∧ Hid (wr.heap[w.heap.size]? = some (.cells (brow (cI k i d)) 23 (0, 0))) ∧ Hid (wr.heap[w.heap.size + 1]? = some (.cells (zb 32) 23 (0, 0))) ∧ Hid (Kept [] w wr)) (fun t _ => 32 - (intOf t).toNat)
  case atStart => exact ⟨k, Nat.le_refl _, h2, rfl, hide (by rw [cI_start]; exact unhide HA), HB, HK⟩
  case round =>
    obtain ⟨i, hi1, hi2, rfl, HG, HZ, HKr⟩ := hrel
    by_cases hlt : i < 32
    · have hlt' : (i : Int) < 32 := by omega
      have q0 := brow_cell (unhide HG) i (by rw [cI_len hi1 hi2 hd]; exact hlt)
      simp only [Go.Proofs.YtbljofojeagdkaaDoor.u8] at q0
      have z0 : wr.frozen? ⟨w.heap.size, i, none⟩ = false := frozen_of_row _ _ _ _ _ (unhide HG)
      have k1 := (Kept.refl [w.heap.size] wr).setCell (p := ⟨w.heap.size, i, none⟩) (Or.inl (by simp)) (.int .u8 0)
      have HG2 := hide (by have h9 := heap_setCell_same wr w.heap.size i _ 23 (.int .u8 0) (unhide HG); rw [cI_set hi1 hlt hd] at h9; exact h9 : (wr.setCell ⟨w.heap.size, i, none⟩ (.int .u8 0)).heap[w.heap.size]? = some (.cells (brow (cI k (i + 1) d)) 23 (0, 0)))
      have HZ2 := hide (k1.heap (unhide HZ) (by simp))
      have HK2 := hide ((unhide HKr).setCell (p := ⟨w.heap.size, i, none⟩) (Or.inr (Nat.le_refl _)) (.int .u8 0))
      clear k1
      go_wp2
      refine ⟨⟨i + 1, by omega, by omega, by go_num, HG2, HZ2, HK2⟩, ?_⟩
      simp [intOf]; omega
    · have hlt' : ¬ (i : Int) < 32 := by omega
      have hi32 : i = 32 := by omega
      subst hi32
      rw [unhide HCE] at HG
      go_wp2_with (first
        | (refine wpList_load_row rfl 23 _ rfl w.heap.size rfl _ (brow (cutL k d)) (0, 0) _ (unhide HG) Tryd.underlying23 rfl (by rw [brow_size, hcl]; exact Tryd.size_dig) ?_)
        | (refine wpList_store_row rfl 23 _ _ rfl (w.heap.size + 1) (brow (cutL k d)) rfl rfl _ (zb 32) (unhide HZ) (by rw [brow_size, hcl]; exact Tryd.size_dig) (by rw [zb_size, brow_size, hcl]) (brow_one _) ?_))
      refine bodyPost_ret (v := .agg (brow (cutL k d))) ?_ rfl ⟨rfl, (unhide HKr).setRow (Or.inr (by omega)) _⟩
      exact results_cell_row rfl _ _ (w.heap.size + 1) _ (brow (cutL k d)) (0, 0) _ rfl (setRow_heap _ _ _ _ _ _ (unhide HZ)) Tryd.underlying23 rfl (by rw [brow_size, hcl]; exact Tryd.size_dig)

theorem wpList_load_midT {P : Program} {ops : Array Oper} {rest : List Oper} {op : Oper} {a : Act} {w : World} {Q : Exit → Act → World → Prop} (hw : Region.wanted op (yielded ops a.tmps) = true) (ty : TypeId) (x : Operand) (ho : op.op = .load ty x)
    (b o : Nat) (hx : a.eval x = .pointer (some ⟨b, o, none⟩)) (cs : List Value) (d : TypeDesc) (hc : w.rangeAt b o cs)
    (hu : P.underlying ty = some d) (hd : d.isRow = true) (hi : (P.info? ty).map (·.size) = some cs.length)
    (h : wpList P ops Q rest (a.put op.dst (.agg cs.toArray)) w) : wpList P ops Q (op :: rest) a w :=
  wpList_want hw fun _ hK => wp_load_mid ty x ho b o hx cs d hc hu hd hi (hK _ _ h)
theorem RdD_nil {w : World} : RdD w (.slice none 0 0) [] := ⟨none, 0, 0, rfl, rfl, Nat.le_refl _, by omega, fun d hd => by simp at hd, fun h => by omega⟩
theorem cutL_cut2 {k : Nat} {d : List Nat} (hk : k ≤ 32) (hd : d.length = 32) : cutL k (cutL k d) = cutL k d := cutL_cutL k d (by omega)
theorem cut_dg {k : Nat} {d : List Nat} (hk : k ≤ 32) (hd : Dg d) : Dg (cutL k d) := ⟨cutL_len k d hk hd.1, cutL_byte k d hd.2⟩
theorem cut_form {k : Nat} {d : List Nat} (h1 : 1 ≤ k) (hk : k ≤ 32) (hd : Dg d) : formB (k : Int) (cutL k d) = true := by
  have hw : widthB (k : Int) = true := by simp [widthB]; omega
  unfold formB
  rw [hw, Int.toNat_natCast, cutL_cut2 hk hd.1]
  simp

end Go.Proofs.YtbljofojeagdkaaDoor
namespace Go.Proofs.YtbljofojeagdkaaDoor
open Go.RowKit Go.BigFrame
set_option linter.unusedVariables false
set_option linter.unusedSimpArgs false

theorem clD_same (z : Int) (l l' : List Nat) : ∀ (p : List (List Nat)) (i n : Nat), (clD z l p i n).isSome = (clD z l' p i n).isSome
  | [], i, n => by unfold clD; split <;> rfl
  | d :: r, i, n => by
    unfold clD
    split
    · rfl
    · split
      · rw [Option.isSome_map, Option.isSome_map, clD_same z l l' r]
      · rw [Option.isSome_map, Option.isSome_map, clD_same z l l' r]
theorem formedE_all {z : Int} {ds : List (List Nat)} (hw : widthB z = true) (h : ∀ d ∈ ds, formB z d = true) : formedE z ds = 0 := by
  unfold formedE
  rw [if_neg (by rw [hw]; simp), if_pos (List.all_eq_true.2 h)]
/-- Two leaves, one proof: one error. -/
theorem rootE_same {z : Int} {x y : List Nat} {i n : Nat} {p : List (List Nat)} (hw : widthB z = true) (hx : formB z x = true) (hy : formB z y = true) (hp : ∀ d ∈ p, formB z d = true) : rootE z x i n p = rootE z y i n p := by
  have fx : formedE z (x :: p) = 0 := formedE_all hw (by intro d hd; rcases List.mem_cons.1 hd with rfl | h; exact hx; exact hp d h)
  have fy : formedE z (y :: p) = 0 := formedE_all hw (by intro d hd; rcases List.mem_cons.1 hd with rfl | h; exact hy; exact hp d h)
  by_cases hr : n ≤ i
  · rw [(rootE_r fx hr).1, (rootE_r fy hr).1]
  · rw [(rootE_c fx hr).1, (rootE_c fy hr).1]
    unfold opE
    rw [clD_same z x y]
theorem rootE_lt {z : Int} {x : List Nat} {i n : Nat} {p : List (List Nat)} (h : rootE z x i n p = 0) : i < n := by
  unfold rootE at h
  split at h
  · omega
  · split at h
    · omega
    · omega
theorem rootD_bad {z : Int} {x : List Nat} {i n : Nat} {p : List (List Nat)} (h : rootE z x i n p ≠ 0) : rootD z x i n p = zD := by
  unfold rootD; rw [if_neg h]
/-- What a proof leads to has the form. -/
theorem rootD_form {z : Int} {x : List Nat} {i n : Nat} {p : List (List Nat)} (hw : widthB z = true) (hx : formB z x = true) (hxd : Dg x) (hp : ∀ d ∈ p, formB z d = true) (h : rootE z x i n p = 0) : formB z (rootD z x i n p) = true := by
  have fx : formedE z (x :: p) = 0 := formedE_all hw (by intro d hd; rcases List.mem_cons.1 hd with rfl | h; exact hx; exact hp d h)
  have hr : ¬ n ≤ i := by have := rootE_lt h; omega
  have h2 := rootE_c (i := i) (n := n) fx hr
  rw [h2.2]
  rw [h2.1] at h
  cases hc : clD z x p.reverse i n with
  | none => rw [hc] at h; simp [opE] at h
  | some d => exact (clD_ok hw hxd hx _ _ _ d hc).2
theorem inc_root {z : Int} {x r : List Nat} {i n : Nat} {p : List (List Nat)} (hw : widthB z = true) (hx : formB z x = true) (hr : formB z r = true) (hp : ∀ d ∈ p, formB z d = true) (h : rootE z x i n p = 0) : incE z x i n p r = if rootD z x i n p = r then 0 else 10 := by
  unfold incE
  rw [if_neg (by rw [formedE_all hw (by intro d hd; simp at hd; rcases hd with rfl | rfl | hd; exact hx; exact hr; exact hp d hd)]; simp), if_neg (by rw [h]; simp)]
theorem root_one {z : Int} {x : List Nat} (hw : widthB z = true) (hx : formB z x = true) : rootE z x 0 1 [] = 0 ∧ rootD z x 0 1 [] = x := by
  have fx : formedE z [x] = 0 := formedE_all hw (by intro d hd; simp at hd; subst hd; exact hx)
  have h := rootE_c (z := z) (leaf := x) (i := 0) (n := 1) (p := []) fx (by decide)
  rw [show clD z x ([] : List (List Nat)).reverse 0 1 = some x by simp [clD]] at h
  exact h
end Go.Proofs.YtbljofojeagdkaaDoor
namespace Go.Proofs.YtbljofojeagdkaaDoor
open Go.RowKit Go.BigFrame
set_option linter.unusedVariables false
set_option linter.unusedSimpArgs false

/-- The digests of ranges. -/
def rgL (z : Int) (L : List (List Nat)) (ss : List (Nat × Nat)) : List (List Nat) := ss.map fun s => rgD z L s.1 s.2
/-- A list of digests in memory of its own. -/
structure OwD (w0 w : World) (v : Value) (ds : List (List Nat)) : Prop where
  own : w.ownsRow w0.heap.size 23 32 v ds.length (flatD ds)
  dg : ∀ d ∈ ds, Dg d
  kept : Kept [] w0 w
theorem OwD.rd {w0 w : World} {v : Value} {ds : List (List Nat)} (h : OwD w0 w v ds) : RdD w v ds := rdd_owns h.own h.dg
theorem OwD.pass {w0 w w' : World} {v : Value} {ds : List (List Nat)} (h : OwD w0 w v ds) (k : Kept [] w w') : OwD w0 w' v ds := ⟨k.owns h.own (by simp), h.dg, h.kept.trans k (by simp)⟩
theorem OwD.nil (w : World) : OwD w w (.slice none 0 0) [] := ⟨World.ownsRow_nil _ _ _ _, by simp, Kept.refl _ _⟩
theorem OwD.push {w0 w w1 : World} {v u : Value} {ds : List (List Nat)} {d : List Nat} (h : OwD w0 w v ds) (hd : Dg d) (o : w1.ownsRow w0.heap.size 23 32 u (ds ++ [d]).length (flatD (ds ++ [d]))) (g : w.grownBy w1 v.ownBlock) : OwD w0 w1 u (ds ++ [d]) := by
  refine ⟨o, ?_, h.kept.grown g (by intro k hk; right; exact (h.own.lt k hk).1)⟩
  intro x hx
  rcases List.mem_append.1 hx with hx | hx
  · exact h.dg x hx
  · rw [List.mem_singleton] at hx; subst hx; exact hd

theorem Tryd.size_span : (Tryd.prog.info? 101).map (·.size) = some 2 := by kernel_rfl
theorem SpAt.cells {w0 w : World} {ao : Option Addr} {n c : Nat} {ss : List (Nat × Nat)} (h : SpAt w0 w (.slice ao n c) ss) (i : Nat) (hi : i < ss.length) : ∃ g, ao = some ⟨g, 0, none⟩ ∧ w.rangeAt g (i * 2) [.int .u64 (ss[i].1 : Int), .int .u64 (ss[i].2 : Int)] := by
  obtain ⟨base, _, h⟩ := h
  rcases h.2 with ⟨e, h0⟩ | ⟨g, cap, cur, e, _⟩
  · omega
  · cases e
    refine ⟨g, rfl, ?_⟩
    have hx := cellsS_get ss i hi
    have c1 := h.cells (g := g) rfl (2 * i) _ hx.1
    have c2 := h.cells (g := g) rfl (2 * i + 1) _ hx.2
    rw [Addr.add_mid, Nat.zero_add] at c1 c2
    intro j v hv
    match j, hv with
    | 0, hv => simp at hv; subst hv; rw [show i * 2 + 0 = 2 * i by omega]; exact c1
    | 1, hv => simp at hv; subst hv; rw [show i * 2 + 1 = 2 * i + 1 by omega]; exact c2
    | j + 2, hv => simp at hv
theorem one_digP (l : List Nat) (hl : l.length = 32) : List.foldl (fun cs x => cs.setIfInBounds x.snd x.fst) (zb 32) (List.map u8 l).zipIdx = brow l := by
  have h := fold_put (l.map u8) (zb 32) 0 0 (by rw [zb_size]; simp [hl])
  simp only [Nat.zero_add] at h
  rw [h]
  unfold brow
  rw [List.take_zero, List.nil_append, List.drop_eq_nil_of_le (by rw [List.length_map, hl, Array.length_toList, zb_size]; exact Nat.le_refl _), List.append_nil]

set_option maxRecDepth 100000 in
set_option maxHeartbeats 400000 in
theorem digests_nil (n : Int) (lv : Value) (w : World) :
    Calls Tryd.prog 35 #[.pointer none, .int .u64 n, lv] w fun e w' => e = .returned (.tuple #[.slice none 0 0, .int .i64 5]) ∧ w' = w := by
  go_enter Tryd.func35, Tryd.ntmps35
  go_wp2_with fail
  exact ⟨rfl, _, results_tmp2 rfl _ _ _, rfl, rfl⟩

set_option maxRecDepth 100000 in
set_option maxHeartbeats 400000 in
theorem digests_bad (z : Int) (t : Nat) (v lv : Value) (ps : List Pk) (n : Nat) (w : World) (hT : TreeAt z w t v ps) (hn : (leavesK ps).length < n) :
    Calls Tryd.prog 35 #[.pointer (some ⟨t, 0, none⟩), .int .u64 n, lv] w fun e w' => e = .returned (.tuple #[.slice none 0 0, .int .i64 4]) ∧ Kept [] w w' := by
  have HS := hide (sizeT_any t z v ps w hT)
  have hn' : ((leavesK ps).length : Int) < n := by omega
  generalize (leavesK ps).length = m at HS hn'
  go_enter Tryd.func35, Tryd.ntmps35
  go_wp2_with fail
  refine (unhide HS).mono ?_
  rintro e w1 ⟨rfl, rfl⟩
  go_wp2_with fail
  exact ⟨rfl, _, results_tmp2 rfl _ _ _, rfl, Kept.refl _ _⟩

set_option maxRecDepth 100000 in
set_option maxHeartbeats 1000000 in
theorem digests_any (z : Int) (t : Nat) (v lv : Value) (ps : List Pk) (n : Nat) (ss : List (Nat × Nat)) (w0 w : World) (hT : TreeAt z w t v ps) (hn : n ≤ (leavesK ps).length) (hb : (leavesK ps).length < 32768) (hs : SpAt w0 w lv ss) (hl : ss.length ≤ 1000) (hTb : Tabs w) (h6 : Tab6 w) :
    Calls Tryd.prog 35 #[.pointer (some ⟨t, 0, none⟩), .int .u64 n, lv] w fun e w' => ∃ u, e = .returned (.tuple #[u, .int .i64 0]) ∧ OwD w w' u (rgL z (leavesK ps) ss) := by
  have HS := hide (sizeT_any t z v ps w hT)
  have hn' : ¬ ((leavesK ps).length : Int) < n := by omega
  have HTR := hide hT
  have HTB := hide hTb
  have H6 := hide h6
  have HSP := hide hs
  have HBN := hide hb
  have HDG := hide (fun a b => rgD_len hT.pk a b)
  obtain ⟨sa, sc, rfl⟩ := hs.form
  generalize (leavesK ps).length = m at HS hn'
  clear hT hTb h6 hs hn hb
  go_enter Tryd.func35, Tryd.ntmps35
  go_wp2_with fail
  refine (unhide HS).mono ?_
  rintro e w1 ⟨rfl, rfl⟩
  go_wp2_with fail
  simp only [show decide (m < n) = false from decide_eq_false (by omega)]
  go_loopw [8, 21] (fun t8 t21 wr => ∃ (i : Nat), i ≤ ss.length ∧ t21 = .int .i64 (i : Int) ∧ Hid (OwD w1 wr t8 (rgL z (leavesK ps) (ss.take i)))) (fun _ t _ => ss.length - (intOf t).toNat)
  case atStart => exact ⟨0, Nat.zero_le _, rfl, hide (OwD.nil _)⟩
  case round =>
    obtain ⟨i, hi, rfl, HO⟩ := hrel
    by_cases hlt : i < ss.length
    · have hlt' : (i : Int) < (ss.length : Int) := by omega
      obtain ⟨g, hsa, hcell⟩ := ((unhide HSP).old (unhide HO).kept).cells i hlt
      subst hsa
      have HSN := hide (by unfold rgL; rw [List.take_add_one, List.getElem?_eq_getElem hlt, List.map_append]; rfl : rgL z (leavesK ps) (ss.take (i + 1)) = rgL z (leavesK ps) (ss.take i) ++ [rgD z (leavesK ps) ss[i].1 ss[i].2])
      have HLN := hide (by unfold rgL; rw [List.length_map, List.length_take]; omega : (rgL z (leavesK ps) (ss.take i)).length + 1 ≤ 1000000)
      have HDG1 := hide (unhide HDG ss[i].1 ss[i].2)
      generalize ss[i].1 = lo at hcell HSN HDG1
      generalize ss[i].2 = hi' at hcell HSN HDG1
      have HRG := hide (fun W (k : Kept [] w1 W) => rangeT_all z t v ps lo hi' W ((unhide HTR).old k) (unhide HBN) ((unhide HTB).kept k (by simp) (by simp)) ((unhide H6).kept k))
      generalize rgD z (leavesK ps) lo hi' = D at HRG HSN HDG1
      generalize rgE (leavesK ps) lo hi' = E at HRG
      have hdl := (unhide HDG1).1
      generalize rgL z (leavesK ps) (ss.take i) = ds at HO HSN HLN
      obtain ⟨ua, ucap, rfl⟩ := owns_form (unhide HO).own
      have ia : ¬ (i : Int) < 0 := by omega
      have ib : ¬ (ss.length : Int) ≤ i := by omega
      have kA := (Kept.refl [] wr).alloc (.cells #[.int .u64 (lo : Int), .int .u64 (hi' : Int)] 101)
      have HOA := hide ((unhide HO).pass kA)
      have HRC := hide (unhide HRG _ (unhide HOA).kept)
      have HCL := hide hcell
      clear hcell kA HRG
      go_wp2_with (first
        | (refine wpList_load_mid rfl 101 _ rfl g (i * 2) rfl [.int .u64 (lo : Int), .int .u64 (hi' : Int)] _ (unhide HCL) Tryd.underlying101 rfl (by exact Tryd.size_span) ?_))
      refine (unhide HRC).mono ?_
      rintro e wa ⟨rfl, ka⟩
      have HOB := hide (((unhide HOA).pass ka).pass (kept_old wa D))
      have HN := hide (cell_new wa D)
      clear ka HRC HOA HO HCL
      obtain ⟨wb, hwb⟩ : ∃ wb, (wa.alloc (.cells (zb 32) 23)).setRow wa.heap.size (brow D) = wb := ⟨_, rfl⟩
      rw [hwb] at HOB HN
      have HWB := hide hwb
      have HOC := hide ((unhide HOB).pass ((Kept.refl [] wb).alloc (.cells (brow D) 23)))
      have HNC := hide (heap_alloc_new wb (.cells (brow D) 23))
      clear hwb
      go_wp2_with (first
        | (rw [zb32]; refine wpList_store_row rfl 23 (.tmp 11) _ rfl wa.heap.size (brow D) rfl rfl _ (zb 32) (heap_alloc_new _ _) (Tryd.szD hdl) (by rw [zb_size, brow_size, hdl]) (brow_one _) ?_; rw [unhide HWB])
        | (refine wpList_load_mid rfl 23 _ rfl wa.heap.size 0 rfl (D.map u8) _ (range_row (unhide HN)) Tryd.underlying23 rfl (by rw [List.length_map, hdl]; exact Tryd.size_dig) ?_)
        | (at_builtin; rw [zb32, one_digP D hdl]; refine wpList_appendD rfl _ _ rfl rfl (wb.alloc (.cells (brow D) 23)) w1.heap.size (.slice ua ds.length ucap) ds [D] (some ⟨wb.heap.size, 0, none⟩) 1 1 (unhide HOC).own (RdD.oneP (unhide HNC) (unhide HDG1)) (by have := unhide HLN; simp; omega) (unhide HOC).kept.size rfl rfl ?_; intro ao3 cap3 w3 HO3 HG3; have HO4 := hide ((unhide HOC).push (unhide HDG1) (unhide HO3) (unhide HG3)); clear HO3 HG3))
      go_roundw
      case rel => exact ⟨i + 1, by omega, by simp, by rw [unhide HSN]; exact HO4⟩
      case measure => simp [intOf]; omega
    · have hlt' : ¬ (i : Int) < (ss.length : Int) := by omega
      have HE := hide (by rw [List.take_of_length_le (by omega)] : ss.take i = ss)
      go_wp2_with fail
      exact ⟨rfl, _, results_tmp2 rfl _ _ _, _, rfl, by have h9 := unhide HO; rw [unhide HE] at h9; exact h9⟩
end Go.Proofs.YtbljofojeagdkaaDoor
namespace Go.Proofs.YtbljofojeagdkaaDoor
open Go.RowKit Go.BigFrame
set_option linter.unusedVariables false
set_option linter.unusedSimpArgs false

theorem OwD.back {w0 w w' : World} {v : Value} {ds : List (List Nat)} (h : OwD w w' v ds) (k : Kept [] w0 w) : OwD w0 w' v ds := by
  refine ⟨⟨h.own.1, ?_⟩, h.dg, k.trans h.kept (by simp)⟩
  rcases h.own.2 with h1 | ⟨g, cap, cur, h1, h2, h3⟩
  · exact Or.inl h1
  · exact Or.inr ⟨g, cap, cur, h1, Nat.le_trans k.size h2, h3⟩
theorem OwD.form {w0 w : World} {v : Value} {ds : List (List Nat)} (h : OwD w0 w v ds) : ∃ ao cap, v = .slice ao ds.length cap := owns_form h.own
theorem OwD.zero {w0 w : World} (k : Kept [] w0 w) : OwD w0 w (.slice none 0 0) [] := (OwD.nil w).back k

/-- What Inclusion answers. -/
def inE (L : List (List Nat)) (i n : Nat) : Int := if n ≤ i ∨ L.length < n then 4 else 0
def inD (z : Int) (L : List (List Nat)) (i n : Nat) : List (List Nat) := if n ≤ i ∨ L.length < n then [] else rgL z L (pathF i 64 0 n)

set_option maxRecDepth 100000 in
set_option maxHeartbeats 400000 in
theorem mincl_any (z : Int) (t : Nat) (v : Value) (ps : List Pk) (i n : Nat) (w : World) (hT : TreeAt z w t v ps) (hb : (leavesK ps).length < 32768) (hTb : Tabs w) (h6 : Tab6 w) (hn64 : n < 18446744073709551616) :
    Calls Tryd.prog 18 #[.pointer (some ⟨t, 0, none⟩), .int .u64 i, .int .u64 n] w fun e w' => ∃ u, e = .returned (.tuple #[u, .int .i64 (inE (leavesK ps) i n)]) ∧ OwD w w' u (inD z (leavesK ps) i n) := by
  unfold inE inD
  by_cases h1 : n ≤ i
  · have h1' : (n : Int) ≤ (i : Int) := by omega
    rw [if_pos (Or.inl h1), if_pos (Or.inl h1)]
    go_enter Tryd.func18, Tryd.ntmps18
    go_wp2_with fail
    exact ⟨rfl, _, results_tmp2 rfl _ _ _, _, rfl, OwD.nil _⟩
  · have h1' : ¬ (n : Int) ≤ (i : Int) := by omega
    have HPA := hide (path_any i n w (by omega) hn64)
    have hpl := pathF_len i 64 0 n
    by_cases h2 : (leavesK ps).length < n
    · rw [if_pos (Or.inr h2), if_pos (Or.inr h2)]
      have HDB := hide (fun lv W (k : Kept [] w W) => digests_bad z t v lv ps n W (hT.old k) h2)
      clear hT h2
      go_enter Tryd.func18, Tryd.ntmps18
      go_wp2_with fail
      refine (unhide HPA).mono ?_
      rintro e w1 ⟨v1, rfl, s1, k1⟩
      have HK1 := hide k1
      clear s1 k1
      go_wp2_with fail
      refine (unhide HDB v1 w1 (unhide HK1)).mono ?_
      rintro e w2 ⟨rfl, k2⟩
      have HK2 := hide ((unhide HK1).trans k2 (by simp))
      clear k2
      go_wp2_with fail
      exact ⟨rfl, _, results_tmp2 rfl _ _ _, _, rfl, OwD.zero (unhide HK2)⟩
    · rw [if_neg (by omega), if_neg (by omega)]
      have HDB := hide (fun lv w0 W (k : Kept [] w W) (hs : SpAt w0 W lv (pathF i 64 0 n)) => digests_any z t v lv ps n _ w0 W (hT.old k) (by omega) hb hs (by omega) (hTb.kept k (by simp) (by simp)) (h6.kept k))
      clear hT h2 hb hTb h6
      generalize pathF i 64 0 n = ss at HPA HDB hpl ⊢
      generalize rgL z (leavesK ps) ss = ds at HDB ⊢
      go_enter Tryd.func18, Tryd.ntmps18
      go_wp2_with fail
      refine (unhide HPA).mono ?_
      rintro e w1 ⟨v1, rfl, s1, k1⟩
      have HK1 := hide k1
      have HS1 := hide s1
      clear s1 k1
      go_wp2_with fail
      refine (unhide HDB v1 w w1 (unhide HK1) (unhide HS1)).mono ?_
      rintro e w2 ⟨u, rfl, o2⟩
      have HO2 := hide (o2.back (unhide HK1))
      clear o2
      go_wp2_with fail
      exact ⟨rfl, _, results_tmp2 rfl _ _ _, u, rfl, unhide HO2⟩

/-- What Consistency answers. -/
def csE (L : List (List Nat)) (m n : Nat) : Int := if n < m ∨ L.length < n then 4 else 0
def csD (z : Int) (L : List (List Nat)) (m n : Nat) : List (List Nat) := if n < m ∨ L.length < n then [] else rgL z L (smL m n)
theorem smL_le (m n : Nat) : (smL m n).length ≤ 65 := by
  unfold smL
  have := seamF_len m 64 0 n true
  split
  · simp
  · omega

set_option maxRecDepth 100000 in
set_option maxHeartbeats 400000 in
theorem mcons_any (z : Int) (t : Nat) (v : Value) (ps : List Pk) (i n : Nat) (w : World) (hT : TreeAt z w t v ps) (hb : (leavesK ps).length < 32768) (hTb : Tabs w) (h6 : Tab6 w) (hn64 : n < 18446744073709551616) :
    Calls Tryd.prog 20 #[.pointer (some ⟨t, 0, none⟩), .int .u64 i, .int .u64 n] w fun e w' => ∃ u, e = .returned (.tuple #[u, .int .i64 (csE (leavesK ps) i n)]) ∧ OwD w w' u (csD z (leavesK ps) i n) := by
  unfold csE csD
  by_cases h1 : n < i
  · have h1' : (n : Int) < (i : Int) := by omega
    rw [if_pos (Or.inl h1), if_pos (Or.inl h1)]
    go_enter Tryd.func20, Tryd.ntmps20
    go_wp2_with fail
    exact ⟨rfl, _, results_tmp2 rfl _ _ _, _, rfl, OwD.nil _⟩
  · have h1' : ¬ (n : Int) < (i : Int) := by omega
    have HPA := hide (seam_any i n w (by omega) hn64)
    have hpl := smL_le i n
    by_cases h2 : (leavesK ps).length < n
    · rw [if_pos (Or.inr h2), if_pos (Or.inr h2)]
      have HDB := hide (fun lv W (k : Kept [] w W) => digests_bad z t v lv ps n W (hT.old k) h2)
      clear hT h2
      go_enter Tryd.func20, Tryd.ntmps20
      go_wp2_with fail
      refine (unhide HPA).mono ?_
      rintro e w1 ⟨v1, rfl, s1, k1⟩
      have HK1 := hide k1
      clear s1 k1
      go_wp2_with fail
      refine (unhide HDB v1 w1 (unhide HK1)).mono ?_
      rintro e w2 ⟨rfl, k2⟩
      have HK2 := hide ((unhide HK1).trans k2 (by simp))
      clear k2
      go_wp2_with fail
      exact ⟨rfl, _, results_tmp2 rfl _ _ _, _, rfl, OwD.zero (unhide HK2)⟩
    · rw [if_neg (by omega), if_neg (by omega)]
      have HDB := hide (fun lv w0 W (k : Kept [] w W) (hs : SpAt w0 W lv (smL i n)) => digests_any z t v lv ps n _ w0 W (hT.old k) (by omega) hb hs (by omega) (hTb.kept k (by simp) (by simp)) (h6.kept k))
      clear hT h2 hb hTb h6
      generalize smL i n = ss at HPA HDB hpl ⊢
      generalize rgL z (leavesK ps) ss = ds at HDB ⊢
      go_enter Tryd.func20, Tryd.ntmps20
      go_wp2_with fail
      refine (unhide HPA).mono ?_
      rintro e w1 ⟨v1, rfl, s1, k1⟩
      have HK1 := hide k1
      have HS1 := hide s1
      clear s1 k1
      go_wp2_with fail
      refine (unhide HDB v1 w w1 (unhide HK1) (unhide HS1)).mono ?_
      rintro e w2 ⟨u, rfl, o2⟩
      have HO2 := hide (o2.back (unhide HK1))
      clear o2
      go_wp2_with fail
      exact ⟨rfl, _, results_tmp2 rfl _ _ _, u, rfl, unhide HO2⟩
end Go.Proofs.YtbljofojeagdkaaDoor
namespace Go.Proofs.YtbljofojeagdkaaDoor
open Go.RowKit Go.BigFrame
set_option linter.unusedVariables false
set_option linter.unusedSimpArgs false

/-- Leaves of a width. -/
structure LvO (z : Int) (L : List (List Nat)) : Prop where
  wid : widthB z = true
  dg : ∀ d ∈ L, Dg d
  fm : ∀ d ∈ L, formB z d = true
theorem LvO.rng {z : Int} {L : List (List Nat)} (h : LvO z L) (a b : Nat) : Dg (rngD z (noT z) L a b) ∧ formB z (rngD z (noT z) L a b) = true :=
  ⟨log_dg _ _ _ (noT_dg _) (fun d hd => h.dg d (List.mem_of_mem_drop (List.mem_of_mem_take hd))), log_form _ _ _ h.wid (noT_form h.wid) (fun d hd => h.fm d (List.mem_of_mem_drop (List.mem_of_mem_take hd)))⟩
theorem LvO.rg {z : Int} {L : List (List Nat)} (h : LvO z L) {a b : Nat} (h1 : a ≤ b) (h2 : b ≤ L.length) : rgD z L a b = rngD z (noT z) L a b := if_neg (by omega)
theorem LvO.getD {z : Int} {L : List (List Nat)} (h : LvO z L) {i : Nat} (hi : i < L.length) : Dg (L.getD i []) ∧ formB z (L.getD i []) = true := by
  have hm : L.getD i [] ∈ L := by rw [List.getD_eq_getElem?_getD, List.getElem?_eq_getElem hi]; exact List.getElem_mem hi
  exact ⟨h.dg _ hm, h.fm _ hm⟩
theorem LvO.path {z : Int} {L : List (List Nat)} (h : LvO z L) {ss : List (Nat × Nat)} {n : Nat} (hn : n ≤ L.length) (hs : ∀ s ∈ ss, s.1 < s.2 ∧ s.2 ≤ n) : rgL z L ss = (ss.map fun s => rngD z (noT z) L s.1 s.2) ∧ ∀ d ∈ rgL z L ss, Dg d ∧ formB z d = true := by
  have e : rgL z L ss = (ss.map fun s => rngD z (noT z) L s.1 s.2) := rgL_rng (fun s hs' => by have := hs s hs'; omega)
  refine ⟨e, ?_⟩
  intro d hd
  rw [e] at hd
  obtain ⟨s, _, rfl⟩ := List.mem_map.1 hd
  exact h.rng s.1 s.2
theorem path_ok {i n : Nat} : ∀ s ∈ pathF i 64 0 n, s.1 < s.2 ∧ s.2 ≤ n := fun s hs => by have := pathF_in i 64 0 n s hs; omega
theorem smL_ok {m n : Nat} (hm : m ≤ n) (hn : n < 18446744073709551616) : ∀ s ∈ smL m n, s.1 < s.2 ∧ s.2 ≤ n := by
  intro s hs
  unfold smL at hs
  split at hs
  · simp at hs
  · have := seamF_in m 64 0 n true (by omega) hm (by omega) s hs
    omega
theorem honest_root {z : Int} {L : List (List Nat)} (h : LvO z L) {i n : Nat} (hi : i < n) (hn : n ≤ L.length) (h64 : n < 18446744073709551616) :
    rootE z (L.getD i []) i n (rgL z L (pathF i 64 0 n)) = 0 ∧ rootD z (L.getD i []) i n (rgL z L (pathF i 64 0 n)) = rgD z L 0 n := by
  have hp := h.path hn (path_ok (i := i))
  have hf : formedE z (L.getD i [] :: rgL z L (pathF i 64 0 n)) = 0 := formedE_ok h.wid (by
    intro d hd
    rcases List.mem_cons.1 hd with rfl | hd
    · exact (h.getD (by omega)).2
    · exact (hp.2 d hd).2)
  have hc := rootE_c hf (show ¬ n ≤ i by omega)
  have hv := cl_val z (noT z) L i 64 0 n (by omega) hi hn (by omega)
  rw [← hp.1, Nat.sub_zero, Nat.sub_zero] at hv
  rw [hc.1, hc.2, hv, h.rg (by omega) hn]
  exact ⟨rfl, rfl⟩
theorem honest_inc {z : Int} {L : List (List Nat)} (h : LvO z L) {i n : Nat} (hi : i < n) (hn : n ≤ L.length) (h64 : n < 18446744073709551616) :
    incE z (L.getD i []) i n (rgL z L (pathF i 64 0 n)) (rgD z L 0 n) = 0 := by
  have hp := h.path hn (path_ok (i := i))
  have hr := honest_root h hi hn h64
  rw [inc_root h.wid (h.getD (by omega)).2 (by rw [h.rg (by omega) hn]; exact (h.rng 0 n).2) (fun d hd => (hp.2 d hd).2) hr.1, if_pos hr.2]
theorem honest_other {z : Int} {L : List (List Nat)} (h : LvO z L) {x : List Nat} (hx : formB z x = true) {i n : Nat} (hi : i < n) (hn : n ≤ L.length) (h64 : n < 18446744073709551616) :
    rootE z x i n (rgL z L (pathF i 64 0 n)) = 0 ∧ incE z x i n (rgL z L (pathF i 64 0 n)) (rgD z L 0 n) = if rootD z x i n (rgL z L (pathF i 64 0 n)) = rgD z L 0 n then 0 else 10 := by
  have hp := h.path hn (path_ok (i := i))
  have hf : formedE z (x :: rgL z L (pathF i 64 0 n)) = 0 := formedE_ok h.wid (by
    intro d hd
    rcases List.mem_cons.1 hd with rfl | hd
    · exact hx
    · exact (hp.2 d hd).2)
  have he : rootE z x i n (rgL z L (pathF i 64 0 n)) = 0 := by
    rw [rootE_len hf hi h64, if_pos (by unfold rgL; rw [List.length_map])]
  exact ⟨he, inc_root h.wid hx (by rw [h.rg (by omega) hn]; exact (h.rng 0 n).2) (fun d hd => (hp.2 d hd).2) he⟩
theorem honest_con {z : Int} {L : List (List Nat)} (h : LvO z L) {m n : Nat} (hm : m ≤ n) (hn : n ≤ L.length) (h64 : n < 18446744073709551616) :
    conE z m n (rgD z L 0 m) (rgD z L 0 n) (rgL z L (smL m n)) = 0 := by
  have hp := h.path hn (smL_ok hm h64)
  have f0 : formB z (rgD z L 0 m) = true := by rw [h.rg (by omega) (by omega)]; exact (h.rng 0 m).2
  have f1 : formB z (rgD z L 0 n) = true := by rw [h.rg (by omega) hn]; exact (h.rng 0 n).2
  have hf : formedE z (rgD z L 0 m :: rgD z L 0 n :: rgL z L (smL m n)) = 0 := formedE_ok h.wid (by
    intro d hd
    rcases List.mem_cons.1 hd with rfl | hd
    · exact f0
    · rcases List.mem_cons.1 hd with rfl | hd
      · exact f1
      · exact (hp.2 d hd).2)
  unfold conE
  rw [if_neg (by rw [hf]; simp), if_neg (by omega)]
  by_cases e1 : m = n
  · rw [if_pos e1, if_pos ⟨by rw [e1]; unfold smL; rw [if_pos (Or.inr rfl)]; rfl, by rw [e1]⟩]
  · rw [if_neg e1]
    by_cases e0 : m = 0
    · rw [if_pos e0, if_pos ⟨by rw [e0]; unfold smL; rw [if_pos (Or.inl rfl)]; rfl, by rw [e0, h.rg (Nat.le_refl _) (Nat.zero_le _), rngD_self]; rfl⟩]
    · rw [if_neg e0]
      have hf2 : formedE z (rgD z L 0 m :: rgL z L (smL m n)) = 0 := formedE_ok h.wid (by
        intro d hd
        rcases List.mem_cons.1 hd with rfl | hd
        · exact f0
        · exact (hp.2 d hd).2)
      have hs : smL m n = seamF m 64 0 n true := by unfold smL; rw [if_neg (by omega)]
      have hv := tw_val z (noT z) (rgD z L 0 m) L m 64 0 n true (by omega) hm hn (by omega) (fun _ => h.rg (by omega) (by omega))
      rw [← hs, ← hp.1, Nat.sub_zero, Nat.sub_zero] at hv
      have hE : rootsE z (rgD z L 0 m) m n (rgL z L (smL m n)) = 0 := by
        unfold rootsE twO
        rw [if_neg (by omega), if_neg (by omega), hv]
        rfl
      have hD : rootsD z (rgD z L 0 m) m n (rgL z L (smL m n)) = (rngD z (noT z) L 0 m, rngD z (noT z) L 0 n) := by
        unfold rootsD twO
        rw [if_pos hE, hv]
        rfl
      rw [if_neg (by rw [hE]; simp), if_pos (by rw [hD]; exact ⟨(h.rg (by omega) (by omega)).symm, (h.rg (by omega) hn).symm⟩)]
theorem honest_same {z : Int} {L : List (List Nat)} (h : LvO z L) {n : Nat} (hn : n ≤ L.length) : conE z n n (rgD z L 0 n) (rgD z L 0 n) [] = 0 := by
  have f1 : formB z (rgD z L 0 n) = true := by rw [h.rg (by omega) hn]; exact (h.rng 0 n).2
  have hf : formedE z [rgD z L 0 n, rgD z L 0 n] = 0 := formedE_ok h.wid (by intro d hd; simp at hd; subst hd; exact f1)
  unfold conE
  rw [if_neg (by rw [hf]; simp), if_neg (by omega), if_pos rfl, if_pos ⟨rfl, rfl⟩]
end Go.Proofs.YtbljofojeagdkaaDoor
