import Derived.Test.YtbbjbpjpejekgaaDoorDIn
import Derived.Test.YtbbjbpjpejekgaaDoorRUvar
namespace Go.Proofs.YtbbjbpjpejekgaaDoor
open Go.RowKit Go.BigFrame
set_option linter.unusedVariables false
set_option linter.unusedSimpArgs false

theorem range_row {w : World} {g : Nat} {l : List Nat} {t : TypeId} {fr : Nat × Nat} (h : w.heap[g]? = some (.cells (brow l) t fr)) : w.rangeAt g 0 (l.map u8) := by
  intro j v hv
  rw [cell_of_row w g _ _ t fr h, Nat.zero_add, brow, List.getElem?_toArray]
  exact hv
theorem alloc_at (w : World) (a : Obj) (b : Obj) : ((w.alloc a).alloc b).heap[w.heap.size + 1]? = some b := by
  have h9 := heap_alloc_new (w.alloc a) b
  have e : (w.alloc a).heap.size = w.heap.size + 1 := Array.size_push _
  rw [e] at h9
  exact h9
theorem alloc3_at (w : World) (a b c : Obj) : (((w.alloc a).alloc b).alloc c).heap[w.heap.size + 1 + 1]? = some c := by
  have h9 := alloc_at (w.alloc a) b c
  have e : (w.alloc a).heap.size = w.heap.size + 1 := Array.size_push _
  rw [e] at h9
  exact h9
theorem RdL.pair {w : World} {x y : Value} {p q : List Nat} {t : TypeId} (h : (w.alloc (.cells #[x, y] t)).heap[w.heap.size]? = some (.cells #[x, y] t)) (hx : Rd w x p) (hy : Rd w y q) : RdL (w.alloc (.cells #[x, y] t)).drew (.slice (some ⟨w.heap.size, 0, none⟩) 2 2) [p, q] := by
  have k := ((Kept.refl [] w).alloc (.cells #[x, y] t)).drew
  refine ⟨_, 2, 2, [x, y], rfl, rfl, rfl, Nat.le_refl _, by omega, fun _ => ⟨w.heap.size, 0, rfl, fun i hi => ?_⟩, fun i hi => ?_⟩
  · rcases (by omega : i = 0 ∨ i = 1) with rfl | rfl
    · exact cell_of_row _ _ _ _ _ _ h
    · exact cell_of_row _ _ _ _ _ _ h
  · rcases (by omega : i = 0 ∨ i = 1) with rfl | rfl
    · exact hx.old k (by simp)
    · exact hy.old k (by simp)
def nodeB (z : Int) (l m : List Nat) : List Nat := 1 :: (l.take z.toNat ++ m.take z.toNat)

set_option maxRecDepth 100000 in
set_option maxHeartbeats 1000000 in
theorem nodeInput_any (z : Int) (l m : List Nat) (w : World) (hz : -9223372036854775808 ≤ z ∧ z ≤ 9223372036854775807) (hl : l.length = 32) (hm : m.length = 32) (hlb : ∀ x ∈ l, x < 256) (hmb : ∀ x ∈ m, x < 256) :
    Calls Tryd.prog 36 #[.int .i64 z, .agg (brow l), .agg (brow m)] w fun e w' => ∃ v, e = .returned (.tuple #[v, .int .i64 (formedE z [l, m])]) ∧ NewB w w' v (if formedE z [l, m] = 0 then nodeB z l m else []) ∧ Kept [] w w' := by
  have HB := hide hlb
  have HB2 := hide hmb
  clear hlb hmb
  obtain ⟨f, hfe⟩ : ∃ f, formedE z [l, m] = f := ⟨_, rfl⟩
  rw [hfe]
  have HFE := hide hfe
  obtain ⟨B, hB⟩ : ∃ B, (if f = 0 then nodeB z l m else []) = B := ⟨_, rfl⟩
  rw [hB]
  have HBB := hide hB
  clear hfe hB
  go_enter Tryd.func36, Tryd.ntmps36
  have HGL := hide (((Kept.refl [] (w.alloc (.cells (brow l) 26))).alloc (.cells (brow m) 26)).heap (heap_alloc_new w (.cells (brow l) 26)) (by simp))
  have HGM := hide (alloc_at w (.cells (brow l) 26) (.cells (brow m) 26))
  have HSL := hide (by rw [List.length_map, hl]; exact Tryd.size_dig : (Tryd.prog.info? 26).map (·.size) = some (l.map u8).length)
  have HSM := hide (by rw [List.length_map, hm]; exact Tryd.size_dig : (Tryd.prog.info? 26).map (·.size) = some (m.map u8).length)
  have hfs : ∀ A : Array Value, (List.foldl (fun cs x => cs.setIfInBounds x.snd x.fst) A (List.map u8 l).zipIdx).size = A.size := fun A => fold_size _ A 0
  go_wp2_with (first
    | (refine wpList_load_mid rfl 26 _ rfl w.heap.size 0 rfl (l.map u8) _ (range_row (unhide HGL)) Tryd.underlying26 rfl (unhide HSL) ?_)
    | (refine wpList_load_mid rfl 26 _ rfl (w.heap.size + 1) 0 rfl (m.map u8) _ (range_row (unhide HGM)) Tryd.underlying26 rfl (unhide HSM) ?_))
  rw [zb64, two_digs l m hl hm]
  clear hfs
  refine Calls.mono (formed_any z _ [l, m] _ hz (RdD.two (alloc3_at _ _ _ _) hl hm (unhide HB) (unhide HB2))) ?_
  rintro e w1 ⟨rfl, k1⟩
  have k01 := ((Kept.refl [] ((w.alloc (.cells (brow l) 26)).alloc (.cells (brow m) 26))).alloc (.cells (l.map u8 ++ m.map u8).toArray 26)).trans k1 (by simp)
  have HK1 := hide ((((Kept.refl [] w).alloc (.cells (brow l) 26)).alloc (.cells (brow m) 26)).trans k01 (by simp))
  have HL := hide (range_row (k01.heap (unhide HGL) (by simp)))
  have HM := hide (range_row (k01.heap (unhide HGM) (by simp)))
  clear k1 k01 HGL HGM
  by_cases hf : f = 0
  · have hwd : 1 ≤ z ∧ z ≤ 32 := by
      have h9 := unhide HFE
      unfold formedE at h9
      cases hw : widthB z with
      | false => rw [hw] at h9; simp at h9; omega
      | true => simpa [widthB] using hw
    obtain ⟨k, rfl⟩ : ∃ k : Nat, z = k := ⟨z.toNat, by omega⟩
    have hk : (k : Int) ≤ 32 := hwd.2
    subst hf
    rw [unhide HFE]
    go_wp2_with fail
    have HA := hide (rd_dig (k := k) (unhide HL) hl (unhide HB) (by omega))
    have HC := hide (rd_dig (k := k) (unhide HM) hm (unhide HB2) (by omega))
    go_region_held3 (fun _ => True) (trivial) (first
      | (go_at_call 59; refine (tagged_any 1 _ [l.take k, m.take k] _ (by decide) (by exact RdL.pair (heap_alloc_new _ _) (unhide HA) (unhide HC)) (by simp; omega)).mono ?_; rintro e w2 ⟨g, rfl, hg, h2, k2⟩; have HG := hide (Nat.le_trans ((unhide HK1).alloc _).drew.size hg); have H2 := hide h2; have HK2 := hide (((unhide HK1).alloc _).drew.trans k2 (by simp)); clear hg h2 k2))
    go_wp2
    go_ret2
    refine ⟨_, rfl, ?_, unhide HK2⟩
    have e9 : 1 :: [l.take k, m.take k].flatten = B := by
      rw [← unhide HBB, if_pos trivial]; simp [nodeB]
    have H9 := hide (by rw [← e9]; simp [hl, hm] : B.length = min k 32 + min k 32 + 1)
    have h9 := NewB.mk (w := w) (bs := 1 :: [l.take k, m.take k].flatten) (unhide HG) (unhide H2) (by intro x hx; simp at hx; rcases hx with rfl | hx | hx; decide; exact unhide HB x (List.mem_of_mem_take hx); exact unhide HB2 x (List.mem_of_mem_take hx)) (by simp [hl, hm]; omega)
    rw [e9, unhide H9] at h9
    exact h9
  · have hf' : ((f : Int) != 0) = true := by rw [bne_iff_ne]; omega
    rw [if_neg hf] at HBB
    have HF := hide hf
    clear hf
    rw [unhide HFE]
    go_wp2
    go_ret2
    exact ⟨_, rfl, by rw [← unhide HBB]; exact NewB.nil _ _, unhide HK1⟩

set_option maxRecDepth 100000 in
set_option maxHeartbeats 1000000 in
theorem refNodeInput_any (k : Nat) (l m : List Nat) (w : World) (hk : 1 ≤ k ∧ k ≤ 32) (hl : l.length = 32) (hm : m.length = 32) (hlb : ∀ x ∈ l, x < 256) (hmb : ∀ x ∈ m, x < 256) :
    Calls Tryd.prog 30 #[.int .i64 k, .agg (brow l), .agg (brow m)] w fun e w' => ∃ v, e = .returned v ∧ Rd w' v (nodeB k l m) ∧ Kept [] w w' := by
  have HB := hide hlb
  have HB2 := hide hmb
  clear hlb hmb
  go_enter Tryd.func30, Tryd.ntmps30
  have HGL := hide (((Kept.refl [] (w.alloc (.cells (brow l) 26))).alloc (.cells (brow m) 26)).heap (heap_alloc_new w (.cells (brow l) 26)) (by simp))
  have HGM := hide (alloc_at w (.cells (brow l) 26) (.cells (brow m) 26))
  have HK0 := hide (((Kept.refl [] w).alloc (.cells (brow l) 26)).alloc (.cells (brow m) 26))
  have hk' : (k : Int) ≤ 32 := by omega
  go_wp2_with fail
  obtain ⟨W, hW⟩ : ∃ W, (w.alloc (.cells (brow l) 26)).alloc (.cells (brow m) 26) = W := ⟨_, rfl⟩
  rw [hW] at HGL HGM HK0 ⊢
  clear hW
  have HA := hide (rd_dig (k := k) (range_row (unhide HGL)) hl (unhide HB) (by omega))
  have HC := hide (rd_dig (k := k) (range_row (unhide HGM)) hm (unhide HB2) (by omega))
  have HTL := hide (by simp [hl]; omega : (l.take k).length + (m.take k).length ≤ 64)
  go_region_held3 (fun _ => True) (trivial) (first
    | (go_at_call 68; refine (join_any _ _ (l.take k) (m.take k) _ (by first | exact (unhide HA).old ((Kept.refl [] W).alloc _).drew (by simp) | exact (unhide HA).old (Kept.refl [] W).drew (by simp)) (by first | exact (unhide HC).old ((Kept.refl [] W).alloc _).drew (by simp) | exact (unhide HC).old (Kept.refl [] W).drew (by simp)) (by have := unhide HTL; omega)).mono ?_; rintro e w3 ⟨v3, rfl, r3, k3, _⟩; have HR3 := hide r3; (try (have HL1 := hide ((rd_lit1 [1] (show (W.alloc (.cells #[.int .u8 1] 5)).drew.heap[W.heap.size]? = _ from heap_alloc_new W _) rfl (by decide) 1 rfl (by decide)).old k3 (by simp)))); first | (have HK3 := hide (((unhide HK0).alloc _).drew.trans k3 (by simp)); clear r3 k3) | (have HK3 := hide ((unhide HK0).drew.trans k3 (by simp)); clear r3 k3))
    | (go_at_call 68; refine (join_any _ _ [1] (l.take k ++ m.take k) _ (by first | exact unhide HL1 | exact rd_lit1 [1] (heap_alloc_new w3 _) rfl (by decide) 1 rfl (by decide)) (by first | exact unhide HR3 | exact (unhide HR3).old ((Kept.refl [] w3).alloc _) (by simp)) (by have := unhide HTL; simp only [List.length_append, List.length_cons, List.length_nil]; omega)).mono ?_; rintro e w4 ⟨v4, rfl, r4, k4, _⟩; have HR4 := hide r4; first | (have HK4 := hide ((unhide HK3).trans k4 (by simp)); clear r4 k4) | (have HK4 := hide (((unhide HK3).alloc _).trans k4 (by simp)); clear r4 k4)))
  all_goals
    go_wp2
    go_ret
    exact ⟨_, rfl, by simpa [nodeB] using unhide HR4, unhide HK4⟩
end Go.Proofs.YtbbjbpjpejekgaaDoor
