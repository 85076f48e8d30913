import Derived.Test.YtbbjbpjpejekgaaDoorDRoot
namespace Go.Proofs.YtbbjbpjpejekgaaDoor
open Go.RowKit Go.BigFrame
set_option linter.unusedVariables false
set_option linter.unusedSimpArgs false

/-- A literal of an array, as a row that is known. -/
theorem wpList_build_as {P : Program} {ops : Array Oper} {rest : List Oper} {o : Oper} {a : Act} {w : World} {Q : Exit → Act → World → Prop} (hg : o.guard = none) (t : TypeId) (parts : Array (Nat × Operand)) (ho : o.op = .build t parts) (cs : Array Value)
    (hb : P.built t (parts.map fun (i, x) => (i, a.eval x)).toList = some cs) (h : wpList P ops Q rest (a.put o.dst (.agg cs)) w) : wpList P ops Q (o :: rest) a w :=
  wpList_build hg t parts ho (by rw [hb]; rfl) (by rw [hb]; exact h)
theorem RdL.row {w : World} {g n : Nat} {vs : List Value} {ps : List (List Nat)} {t : TypeId} {fr : Nat × Nat} (h : w.heap[g]? = some (.cells vs.toArray t fr)) (hv : vs.length = n) (hp : ps.length = n) (hn : n ≤ 140737488355328)
    (hr : ∀ i, i < n → Rd w (vs.getD i undef) (ps.getD i [])) : RdL w (.slice (some ⟨g, 0, none⟩) n n) ps := by
  refine ⟨_, n, n, vs, rfl, hv, hp, Nat.le_refl _, by omega, fun _ => ⟨g, 0, rfl, fun i hi => ?_⟩, hr⟩
  rw [cell_of_row _ _ _ _ _ _ h, Nat.zero_add, List.getElem?_toArray, List.getD_eq_getElem?_getD, List.getElem?_eq_getElem (by omega)]; rfl
theorem rd_lit1 {w : World} {g : Nat} (bs : List Nat) {cs : Array Value} (h : w.heap[g]? = some (.cells cs 5 (0, 0))) (hc : cs = (bs.map u8).toArray) (hb : ∀ x ∈ bs, x < 256) (n : Nat) (hn : bs.length = n) (hl : n ≤ 140737488355328) : Rd w (.slice (some ⟨g, 0, none⟩) n n) bs := rd_lit h hc hb n hn hl
def dAbc : List Nat := 186 :: 120 :: List.replicate 30 0
def dA : List Nat := 170 :: List.replicate 31 0
def dB : List Nat := 187 :: List.replicate 31 0
theorem lit_abc : (#[.int .u8 186, .int .u8 120, .int .u8 0, .int .u8 0, .int .u8 0, .int .u8 0, .int .u8 0, .int .u8 0, .int .u8 0, .int .u8 0, .int .u8 0, .int .u8 0, .int .u8 0, .int .u8 0, .int .u8 0, .int .u8 0, .int .u8 0, .int .u8 0, .int .u8 0, .int .u8 0, .int .u8 0, .int .u8 0, .int .u8 0, .int .u8 0, .int .u8 0, .int .u8 0, .int .u8 0, .int .u8 0, .int .u8 0, .int .u8 0, .int .u8 0, .int .u8 0] : Array Value) = brow dAbc := rfl
theorem abc_dig : cutL 2 (hash [97, 98, 99]) = dAbc := by
  unfold hash hashW
  have e : [97, 98, 99] ++ pad [97, 98, 99].length = [97, 98, 99, 128] ++ List.replicate 59 0 ++ [24] := by decide
  rw [e, chain_step (by decide), chain_short (by decide), ← evC_eq]
  decide +kernel

set_option maxRecDepth 100000 in
set_option maxHeartbeats 1000000 in
theorem dawake_any (w : World) (hT : Tabs w) :
    Calls Tryd.prog 5 #[] w fun e w' => e = .returned (.bool true) ∧ Kept [] w w' := by
  have HT := hide hT
  clear hT
  go_enter Tryd.func5, Tryd.ntmps5
  go_wp2_with fail
  have HK0 := hide ((((Kept.refl [] w).alloc (.cells #[.int .u8 97] 5)).alloc (.cells #[.int .u8 98, .int .u8 99] 5)).alloc (.cells #[.slice (some ⟨w.heap.size, 0, none⟩) 1 1, .slice none 0 0, .slice (some ⟨w.heap.size + 1, 0, none⟩) 2 2] 24))
  have HA := hide (heap_alloc3 w (.cells #[.int .u8 97] 5) (.cells #[.int .u8 98, .int .u8 99] 5) (.cells #[.slice (some ⟨w.heap.size, 0, none⟩) 1 1, .slice none 0 0, .slice (some ⟨w.heap.size + 1, 0, none⟩) 2 2] 24))
  obtain ⟨W, hW⟩ : ∃ W, ((w.alloc (.cells #[.int .u8 97] 5)).alloc (.cells #[.int .u8 98, .int .u8 99] 5)).alloc (.cells #[.slice (some ⟨w.heap.size, 0, none⟩) 1 1, .slice none 0 0, .slice (some ⟨w.heap.size + 1, 0, none⟩) 2 2] 24) = W := ⟨_, rfl⟩
  rw [hW] at HK0 HA ⊢
  clear hW
  have hrl : RdL W (.slice (some ⟨w.heap.size + 1 + 1, 0, none⟩) 3 3) [[97], [], [98, 99]] := by
    refine RdL.row (vs := [.slice (some ⟨w.heap.size, 0, none⟩) 1 1, .slice none 0 0, .slice (some ⟨w.heap.size + 1, 0, none⟩) 2 2]) (unhide HA).2.2 rfl rfl (by omega) (fun i hi => ?_)
    rcases (by omega : i = 0 ∨ i = 1 ∨ i = 2) with rfl | rfl | rfl
    · exact rd_lit1 [97] (unhide HA).1 rfl (by decide) 1 rfl (by omega)
    · exact Rd.nil _
    · exact rd_lit1 [98, 99] (unhide HA).2.1 rfl (by decide) 2 rfl (by omega)
  refine Calls.mono (dsum_any 2 _ [[97], [], [98, 99]] W (by decide) hrl (by simp) ((unhide HT).k (unhide HK0)) rfl) ?_
  rintro e w1 ⟨rfl, k1⟩
  have HK1 := hide ((unhide HK0).trans k1 (by simp))
  clear k1 hrl HA
  rw [show cutL (Int.toNat 2) (hash [[97], [], [98, 99]].flatten) = dAbc from abc_dig]
  have HZZ := hide (by rw [brow_size]; exact Tryd.size_dig : (Tryd.prog.info? 26).map (·.size) = some (brow dAbc).size)
  have HD1 := hide (setRow_heap (w1.alloc (.cells (zb 32) 26)) w1.heap.size (zb 32) (brow dAbc) 26 (0, 0) (heap_alloc_new _ _))
  have HKD := hide (((unhide HK1).alloc (.cells (zb 32) 26)).setRow (g := w1.heap.size) (Or.inr (unhide HK1).size) (brow dAbc))
  go_wp2_with (first
    | (rw [zb32]; refine wpList_store_row rfl 26 _ _ rfl w1.heap.size (brow dAbc) rfl rfl _ (zb 32) (heap_alloc_new _ _) (unhide HZZ) (by rw [zb_size, brow_size]; rfl) (brow_one _) ?_)
    | (refine wpList_build_as rfl 26 #[(0, .const (.int .u8 170))] rfl (brow dA) (by kernel_rfl) ?_)
    | (refine wpList_build_as rfl 26 #[(0, .const (.int .u8 187))] rfl (brow dB) (by kernel_rfl) ?_)
    | (refine wpList_build_as rfl 32 _ rfl (rootC 258 dA dB).toArray (by kernel_rfl) ?_))
  refine Calls.mono (rootInput_any 1 258 dA dB _ (by decide) (by decide) rfl rfl (by decide) (by decide)) ?_
  rintro e w2 ⟨v2, rfl, n2, k2⟩
  rw [show formedE 1 [dA, dB] = 0 by decide, if_pos rfl, show rootB 1 258 dA dB = [6, 0, 0, 0, 0, 0, 0, 1, 2, 170, 187] by decide] at n2
  rw [show formedE 1 [dA, dB] = 0 by decide]
  have HD2 := hide (k2.heap (unhide HD1) (by simp))
  have HK2 := hide ((unhide HKD).trans k2 (by simp))
  have HR2 := hide n2.1
  clear k2 n2
  have hqd : ∀ W, (Op.equalIn 10000 26 (.agg (brow dAbc)) (.agg #[.int .u8 186, .int .u8 120, .int .u8 0, .int .u8 0, .int .u8 0, .int .u8 0, .int .u8 0, .int .u8 0, .int .u8 0, .int .u8 0, .int .u8 0, .int .u8 0, .int .u8 0, .int .u8 0, .int .u8 0, .int .u8 0, .int .u8 0, .int .u8 0, .int .u8 0, .int .u8 0, .int .u8 0, .int .u8 0, .int .u8 0, .int .u8 0, .int .u8 0, .int .u8 0, .int .u8 0, .int .u8 0, .int .u8 0, .int .u8 0, .int .u8 0, .int .u8 0])).run Tryd.prog W = .ok true W := by
    intro W
    rw [lit_abc]
    have := dig_eq W dAbc dAbc rfl rfl
    rw [decide_eq_true rfl] at this
    exact this
  go_wp2_with (refine wpList_load_rowG rfl 26 (.tmp 1) rfl w1.heap.size rfl _ (brow dAbc) (0, 0) _ (unhide HD2) Tryd.underlying26 rfl (unhide HZZ) ?_)
  refine Calls.mono (same_any _ _ _ _ _ ((unhide HR2).old ((Kept.refl [] w2).alloc _) (by simp)) (rd_lit1 [6, 0, 0, 0, 0, 0, 0, 1, 2, 170, 187] (heap_alloc_new _ _) rfl (by decide) 11 rfl (by decide))) ?_
  rintro e w3 ⟨rfl, n3, rfl⟩
  rw [decide_eq_true rfl]
  go_wp2
  go_ret
  exact ⟨rfl, ((unhide HK2).alloc _).drewN _⟩
end Go.Proofs.YtbbjbpjpejekgaaDoor
