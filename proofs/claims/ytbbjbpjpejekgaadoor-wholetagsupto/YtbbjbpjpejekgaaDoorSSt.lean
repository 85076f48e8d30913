import Derived.Test.YtbbjbpjpejekgaaDoorSCom
import Derived.Test.YtbbjbpjpejekgaaDoorSPad
import Derived.Deep.MidRow
namespace Go.Proofs.YtbbjbpjpejekgaaDoor
open Go.RowKit
set_option linter.unusedVariables false
set_option linter.unusedSimpArgs false

/- Reckoning: a text, and some bytes more. -/
theorem chain_split (h t : List Nat) : chain h t = chain h (t.take (t.length / 64 * 64)) := by
  have e : t = t.take (t.length / 64 * 64) ++ rest t := by unfold rest; rw [List.take_append_drop]
  have hl : (t.take (t.length / 64 * 64)).length = 64 * (t.length / 64) := by rw [List.length_take]; omega
  conv => lhs; rw [e]
  rw [chain_append (rest t) (t.length / 64) h _ hl, chain_short (by rw [rest_len]; omega)]
theorem chain_more (h t q : List Nat) : chain h (t ++ q) = chain (chain h t) (rest t ++ q) := by
  have e : t ++ q = t.take (t.length / 64 * 64) ++ (rest t ++ q) := by unfold rest; rw [← List.append_assoc, List.take_append_drop]
  have hl : (t.take (t.length / 64 * 64)).length = 64 * (t.length / 64) := by rw [List.length_take]; omega
  rw [e, chain_append _ (t.length / 64) h _ hl, ← chain_split]
theorem chain_push (h t q : List Nat) (hq : (rest t).length + q.length = 64) : chain h (t ++ q) = comp (chain h t) (rest t ++ q) := by
  have hl : (rest t ++ q).length = 64 := by rw [List.length_append]; exact hq
  rw [chain_more, chain_step (by omega), chain_short (by rw [List.length_drop]; omega), List.take_of_length_le (by omega)]
theorem chain_keep (h t q : List Nat) (hq : (rest t).length + q.length < 64) : chain h (t ++ q) = chain h t := by
  rw [chain_more, chain_short (by rw [List.length_append]; exact hq)]
theorem rest_keep (t q : List Nat) (hq : (rest t).length + q.length < 64) : rest (t ++ q) = rest t ++ q := by
  rw [rest_len] at hq
  have e : (t ++ q).length / 64 * 64 = t.length / 64 * 64 := by rw [List.length_append]; omega
  unfold rest; rw [e, List.drop_append_of_le_length (by omega)]
theorem rest_full (t q : List Nat) (hq : (rest t).length + q.length = 64) : rest (t ++ q) = [] := by
  apply List.eq_nil_of_length_eq_zero
  rw [rest_len] at hq ⊢; rw [List.length_append]; omega
theorem chain_ok (t : List Nat) {h : List Nat} (w : Wds h) : Wds (chain h t) := chain_wds t _ h w

/-- The cells of a State. -/
def stc (ws bl : List Nat) (n : Nat) : List Value := ws.map wv ++ (bl.map u8 ++ [.int .u64 (n : Int)])
theorem stc_len {ws bl : List Nat} (n : Nat) (h1 : ws.length = 8) (h2 : bl.length = 64) : (stc ws bl n).length = 73 := by simp [stc, h1, h2]
/-- The State at the block g has the words ws, the block bl, the count n. -/
def StAt (w : World) (g : Nat) (ws bl : List Nat) (n : Nat) : Prop := w.heap[g]? = some (.cells (stc ws bl n).toArray 117 (0, 0)) ∧ Wds ws ∧ bl.length = 64 ∧ (∀ x ∈ bl, x < 256)
theorem StAt.kept {L : List Nat} {w w' : World} {g n : Nat} {ws bl : List Nat} (h : StAt w g ws bl n) (k : Kept L w w') (hg : g ∉ L) : StAt w' g ws bl n := ⟨k.heap h.1 hg, h.2⟩
theorem stc_get {ws bl : List Nat} {n : Nat} (h1 : ws.length = 8) (h2 : bl.length = 64) : (stc ws bl n)[72]? = some (.int .u64 (n : Int)) := by
  unfold stc; rw [List.getElem?_append_right (by simp; omega), List.getElem?_append_right (by simp; omega)]; simp [h1, h2]
theorem StAt.count {w : World} {g n : Nat} {ws bl : List Nat} (h : StAt w g ws bl n) : w.cell? ⟨g, 72, none⟩ = some (.int .u64 (n : Int)) := by
  rw [cell_of_row _ _ _ _ _ _ h.1, List.getElem?_toArray]; exact stc_get h.2.1.1 h.2.2.1
theorem StAt.frozen {w : World} {g n : Nat} {ws bl : List Nat} (h : StAt w g ws bl n) (j : Nat) : w.frozen? ⟨g, j, none⟩ = false := frozen_of_row _ _ _ _ _ h.1
theorem StAt.words {w : World} {g n : Nat} {ws bl : List Nat} (h : StAt w g ws bl n) : w.rangeAt g 0 (ws.map wv) := fun j v hv => by
  rw [cell_of_row _ _ _ _ _ _ h.1, List.getElem?_toArray, Nat.zero_add, stc, List.getElem?_append_left (List.getElem?_eq_some_iff.1 hv).1]; exact hv
theorem StAt.block {w : World} {g n : Nat} {ws bl : List Nat} (h : StAt w g ws bl n) : w.rangeAt g 8 (bl.map u8) := fun j v hv => by
  have hj := (List.getElem?_eq_some_iff.1 hv).1
  rw [cell_of_row _ _ _ _ _ _ h.1, List.getElem?_toArray, stc, List.getElem?_append_right (by simp [h.2.1.1]), List.getElem?_append_left (by simp [h.2.1.1]; simpa using hj)]
  simpa [h.2.1.1] using hv
theorem StAt.there {w : World} {g n : Nat} {ws bl : List Nat} (h : StAt w g ws bl n) (o m : Nat) (hm : o + m ≤ 73) : w.there g o m := fun j hj => by
  refine ⟨?_, h.frozen _⟩
  rw [cell_of_row _ _ _ _ _ _ h.1, List.getElem?_toArray, List.getElem?_eq_getElem (by rw [stc_len n h.2.1.1 h.2.2.1]; omega)]; rfl
/-- Cells written one behind the other. -/
theorem setCells_row (g : Nat) (t : TypeId) : ∀ (vs V A B : List Value) (w : World), vs.length = V.length → w.heap[g]? = some (.cells (A ++ (V ++ B)).toArray t (0, 0)) →
    (w.setCells g A.length vs).heap[g]? = some (.cells (A ++ (vs ++ B)).toArray t (0, 0)) ∧ Kept [g] w (w.setCells g A.length vs)
  | [], [], A, B, w, _, h => ⟨h, Kept.refl _ _⟩
  | [], x :: V, A, B, w, hl, h => by simp at hl
  | v :: vs, [], A, B, w, hl, h => by simp at hl
  | v :: vs, x :: V, A, B, w, hl, h => by
    have h1 := heap_setCell_same w g A.length _ t v h
    have e : (A ++ (x :: V ++ B)).toArray.setIfInBounds A.length v = ((A ++ [v]) ++ (V ++ B)).toArray := by
      rw [List.setIfInBounds_toArray, List.set_append_right _ _ (Nat.le_refl _), Nat.sub_self]; simp
    rw [e] at h1
    have ih := setCells_row g t vs V (A ++ [v]) B _ (by simpa using hl) h1
    have e2 : (A ++ [v]).length = A.length + 1 := by simp
    rw [e2] at ih
    refine ⟨?_, ?_⟩
    · have := ih.1
      simp only [World.setCells]
      rw [this]; simp
    · simp only [World.setCells]
      exact ((Kept.refl [g] w).setCell (p := ⟨g, A.length, none⟩) (Or.inl (by simp)) v).trans ih.2 (by simp)
theorem StAt.setWords {w : World} {g n : Nat} {ws bl vs : List Nat} (h : StAt w g ws bl n) (hv : Wds vs) : StAt (w.setCells g 0 (row vs).toList) g vs bl n ∧ Kept [g] w (w.setCells g 0 (row vs).toList) := by
  have := setCells_row g 117 (vs.map wv) (ws.map wv) [] (bl.map u8 ++ [.int .u64 (n : Int)]) w (by simp [hv.1, h.2.1.1]) h.1
  have e : (row vs).toList = vs.map wv := by simp [row]
  rw [e]
  exact ⟨⟨this.1, hv, h.2.2⟩, this.2⟩
theorem StAt.setCount {w : World} {g n : Nat} {ws bl : List Nat} (h : StAt w g ws bl n) (m : Nat) : StAt (w.setCell ⟨g, 72, none⟩ (.int .u64 (m : Int))) g ws bl m := by
  refine ⟨?_, h.2⟩
  rw [heap_setCell_same w g 72 _ 117 _ h.1, List.setIfInBounds_toArray]
  congr 3
  unfold stc
  rw [List.set_append_right _ _ (by simp [h.2.1.1]), List.set_append_right _ _ (by simp [h.2.1.1, h.2.2.1])]
  simp [h.2.1.1, h.2.2.1]
/-- What the copy lays. -/
theorem StAt.setBlock {w : World} {g n a : Nat} {ws bl q : List Nat} (h : StAt w g ws bl n) (ha : a + q.length ≤ 64) (hq : ∀ x ∈ q, x < 256) :
    StAt (w.setRow g ((stc ws bl n).take (8 + a) ++ q.map u8 ++ (stc ws bl n).drop (8 + a + q.length)).toArray) g ws (bl.take a ++ q ++ bl.drop (a + q.length)) n := by
  have e : (stc ws bl n).take (8 + a) ++ q.map u8 ++ (stc ws bl n).drop (8 + a + q.length) = stc ws (bl.take a ++ q ++ bl.drop (a + q.length)) n := by
    have l8 : (ws.map wv).length = 8 := by simp [h.2.1.1]
    have l64 : (bl.map u8).length = 64 := by simp [h.2.2.1]
    unfold stc
    rw [List.take_append, List.drop_append, l8, List.take_of_length_le (show (ws.map wv).length ≤ 8 + a by omega), List.drop_eq_nil_of_le (show (ws.map wv).length ≤ 8 + a + q.length by omega),
      show 8 + a - 8 = a by omega, show 8 + a + q.length - 8 = a + q.length by omega, List.take_append_of_le_length (by omega), List.drop_append_of_le_length (by omega)]
    simp [List.map_take, List.map_drop]
  rw [e]
  refine ⟨setRow_heap _ _ _ _ _ _ h.1, h.2.1, ?_, ?_⟩
  · have := h.2.2.1; simp; omega
  · intro x hx
    simp only [List.mem_append] at hx
    rcases hx with (hx | hx) | hx
    · exact h.2.2.2 x (List.mem_of_mem_take hx)
    · exact hq x hx
    · exact h.2.2.2 x (List.mem_of_mem_drop hx)

/-- The table of the first words, beside that of the round words. -/
def Tabs (w : World) : Prop := KTab w ∧ ∀ i, i < 8 → w.cell? ⟨0, i, none⟩ = some (wv (h0.getD i 0))
theorem Tabs.kept {w w' : World} (h : Tabs w) {L : List Nat} (k : Kept L w w') (h0' : 1 ∉ L) (h1' : 0 ∉ L) : Tabs w' := ⟨fun j hj => k.cell (h.1 j hj) h0', fun j hj => k.cell (h.2 j hj) h1'⟩
theorem Tabs.two {w : World} (h : Tabs w) : 1 < w.heap.size := by
  have h1 := block_lt_of_cell (h.1 0 (by decide))
  have h2 := block_lt_of_cell (h.2 0 (by decide))
  simp only at h1 h2
  omega
theorem Tabs.first {w : World} (h : Tabs w) : w.rangeAt 0 0 (h0.map wv) := fun j v hv => by
  have hj : j < 8 := by have := (List.getElem?_eq_some_iff.1 hv).1; simpa [h0] using this
  rw [Nat.zero_add, h.2 j hj]
  rw [List.getElem?_map] at hv
  obtain ⟨x, hx, rfl⟩ := Option.map_eq_some_iff.1 hv
  rw [List.getD_eq_getElem?_getD, hx]; rfl

end Go.Proofs.YtbbjbpjpejekgaaDoor
