import Derived.Test.YtbbjbpjpejekgaaAGrow2
import Derived.Test.YtbbjbpjpejekgaaAMkd
namespace Go.Proofs.Ytbbjbpjpejekgaa
open Go.RowKit Go.BigFrame
set_option linter.unusedVariables false
set_option linter.unusedSimpArgs false

/-- A list: where it lies, its length, its room. -/
abbrev LT := Option Addr × Nat × Nat
def vT (t : LT) : Value := .slice t.1 t.2.1 t.2.2
/-- It is owned, whatever bytes it holds. -/
def OwT (w : World) (t : LT) : Prop := ∃ xs, w.ownsRow 0 5 1 (vT t) t.2.1 xs
/-- It bears the marks of the list i. -/
def MkT (w : World) (r i : Nat) (t : LT) : Prop := w.ownsRow 0 5 1 (vT t) (mk3 r i t.2.1).length ((mk3 r i t.2.1).map u8)
/-- Its first j places bear them. -/
def HfT (w : World) (r i j : Nat) (t : LT) : Prop := ∃ rest, rest.length = t.2.1 - j ∧ w.ownsRow 0 5 1 (vT t) t.2.1 ((mk3 r i j).map u8 ++ rest)
theorem MkT.ow {w : World} {r i : Nat} {t : LT} (h : MkT w r i t) : OwT w t := by unfold MkT at h; rw [mk3_len] at h; exact ⟨_, h⟩
theorem OwT.half {w : World} {t : LT} (h : OwT w t) (r i : Nat) : HfT w r i 0 t := by
  obtain ⟨xs, h⟩ := h
  exact ⟨xs, by have := h.1; omega, by simpa [mk3] using h⟩
theorem HfT.full {w : World} {r i : Nat} {t : LT} (h : HfT w r i t.2.1 t) : MkT w r i t := by
  obtain ⟨rest, h0, h⟩ := h
  have : rest = [] := List.eq_nil_of_length_eq_zero (by omega)
  subst this
  unfold MkT
  rw [mk3_len]
  simpa using h
theorem HfT.block {w : World} {r i j : Nat} {t : LT} (h : HfT w r i j t) (hj : j < t.2.1) : ∃ b, t.1 = some ⟨b, 0, none⟩ ∧ b < w.heap.size := by
  obtain ⟨rest, h0, h⟩ := h
  rcases h.2 with ⟨_, h9⟩ | ⟨g, cap, cur, h1, _, h3, _⟩
  · omega
  · unfold vT at h1
    injection h1 with e1 e2 e3
    exact ⟨g, e1, by
      rcases Nat.lt_or_ge g w.heap.size with h8 | h8
      · exact h8
      · rw [Array.getElem?_eq_none h8] at h3; cases h3⟩
/-- The store of the next mark. -/
theorem HfT.set {w : World} {r i j : Nat} {t : LT} (h : HfT w r i j t) (hj : j < t.2.1) {b : Nat} (hb : t.1 = some ⟨b, 0, none⟩) : HfT (w.setCell ⟨b, j, none⟩ (u8 (markN r i j))) r i (j + 1) t ∧ w.frozen? ⟨b, j, none⟩ = false ∧ Kept [b] w (w.setCell ⟨b, j, none⟩ (u8 (markN r i j))) := by
  obtain ⟨rest, h0, h⟩ := h
  rcases h.2 with ⟨_, h9⟩ | ⟨g, cap, cur, h1, h2, h3, h4, h5, h6, h7⟩
  · omega
  · have hv := h1
    unfold vT at h1
    injection h1 with e1 e2 e3
    rw [hb] at e1
    cases e1
    cases hr : rest with
    | nil => rw [hr] at h0; simp at h0; omega
    | cons x xs =>
      subst hr
      refine ⟨⟨xs, by simp at h0; omega, by simp [mk3_len]; simp at h0; omega, .inr ⟨b, cap, cur.setIfInBounds j (u8 (markN r i j)), hv, h2, heap_setCell_same w b j cur 5 _ h3, h4, h5, by simpa using h6, ?_⟩⟩, frozen_of_row _ _ _ _ _ h3, (Kept.refl [b] w).setCell (p := ⟨b, j, none⟩) (by simp) _⟩
      rw [Array.toList_setIfInBounds, List.take_set, h7, mk3_succ, List.map_append, List.append_assoc]
      rw [List.set_append_right _ _ (by simp [mk3_len])]
      simp [mk3_len]
theorem HfT.cell {w : World} {r i j : Nat} {t : LT} (h : HfT w r i j t) (hj : j < t.2.1) {b : Nat} (hb : t.1 = some ⟨b, 0, none⟩) : ∃ x, w.cell? ⟨b, j, none⟩ = some x := by
  obtain ⟨rest, h0, h⟩ := h
  rcases h.2 with ⟨_, h9⟩ | ⟨g, cap, cur, h1, h2, h3, h4, h5, h6, h7⟩
  · omega
  · unfold vT at h1
    injection h1 with e1 e2 e3
    rw [hb] at e1
    cases e1
    rw [cell_of_row w b j cur 5 (0, 0) h3]
    exact ⟨cur[j]'(by omega), Array.getElem?_eq_getElem (by omega)⟩
theorem OwT.pass {L : List Nat} {w w' : World} {t : LT} (h : OwT w t) (k : Kept L w w') (hn : ∀ b, (vT t).ownBlock = some b → b ∉ L) : OwT w' t := by
  obtain ⟨xs, h⟩ := h
  exact ⟨xs, k.owns h hn⟩
theorem MkT.pass {L : List Nat} {w w' : World} {r i : Nat} {t : LT} (h : MkT w r i t) (k : Kept L w w') (hn : ∀ b, (vT t).ownBlock = some b → b ∉ L) : MkT w' r i t := k.owns h hn
/-- No two lie in one block. -/
def Aprt (L : List LT) : Prop := ∀ i j (hi : i < L.length) (hj : j < L.length), i ≠ j → ∀ b, (vT L[i]).ownBlock = some b → (vT L[j]).ownBlock ≠ some b
def blks (L : List LT) : List Nat := L.flatMap fun t => (vT t).ownBlock.toList
theorem blks_mem {L : List LT} {i : Nat} (hi : i < L.length) {b : Nat} (h : (vT L[i]).ownBlock = some b) : b ∈ blks L := by
  unfold blks
  rw [List.mem_flatMap]
  exact ⟨L[i], List.getElem_mem hi, by rw [h]; simp⟩
/-- The lists amid the marking: k are marked, of the next one j places. -/
structure Mrk (w0 w : World) (r : Nat) (L : List LT) (k : Nat) : Prop where
  done : ∀ i (hi : i < L.length), i < k → MkT w r i L[i]
  rest : ∀ i (hi : i < L.length), k ≤ i → OwT w L[i]
  k : Kept (blks L) w0 w
theorem Mrk.step {w0 w w' : World} {r : Nat} {L : List LT} {k : Nat} (h : Mrk w0 w r L k) (ha : Aprt L) (hk : k < L.length) (kk : Kept (vT L[k]).ownBlock.toList w w') (hm : MkT w' r k L[k]) : Mrk w0 w' r L (k + 1) := by
  refine ⟨fun i hi hlt => ?_, fun i hi hle => ?_, h.k.trans kk (fun b hb => .inl (blks_mem hk (by simpa using hb)))⟩
  · by_cases he : i = k
    · subst he; exact hm
    · exact (h.done i hi (by omega)).pass kk (fun b hb hm => ha i k hi hk he b hb (by simpa using hm))
  · exact (h.rest i hi (by omega)).pass kk (fun b hb hm => ha i k hi hk (by omega) b hb (by simpa using hm))
end Go.Proofs.Ytbbjbpjpejekgaa
