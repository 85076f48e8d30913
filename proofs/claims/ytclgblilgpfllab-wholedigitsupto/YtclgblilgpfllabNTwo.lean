import Derived.Test.YtclgblilgpfllabNDig
namespace Go.Proofs.Ytclgblilgpfllab
open Go.RowKit Go.BigFrame
set_option linter.unusedVariables false
set_option linter.unusedSimpArgs false

def Dg (l : List Nat) : Prop := l.length = 32 ∧ ∀ x ∈ l, x < 256
theorem fold_put (vs : List Value) : ∀ (A : Array Value) (k n : Nat), k + n + vs.length ≤ A.size → (vs.zipIdx n).foldl (fun cs x => cs.setIfInBounds (k + x.2) x.1) A = (A.toList.take (k + n) ++ (vs ++ A.toList.drop (k + n + vs.length))).toArray := by
  induction vs with
  | nil => intro A k n h; simp
  | cons v vs ih =>
    intro A k n h
    rw [List.zipIdx_cons, List.foldl_cons, ih _ k (n + 1) (by simp at h ⊢; omega)]
    have hA : k + n < A.toList.length := by simp at h ⊢; omega
    rw [Array.toList_setIfInBounds]
    rw [show k + (n + 1) = k + n + 1 by omega, List.take_succ_eq_append_getElem (by simpa using hA)]
    simp only [List.take_set_of_le (Nat.le_refl _), List.getElem_set_self, List.append_assoc, List.cons_append, List.nil_append, List.length_cons]
    rw [List.drop_set_of_lt (by omega)]
    rw [show k + n + 1 + vs.length = k + n + (vs.length + 1) by omega]
theorem fold_size (vs : List Value) : ∀ (A : Array Value) (n : Nat), ((vs.zipIdx n).foldl (fun cs x => cs.setIfInBounds x.2 x.1) A).size = A.size := by
  induction vs with
  | nil => intro A n; rfl
  | cons v vs ih => intro A n; rw [List.zipIdx_cons, List.foldl_cons, ih]; simp
theorem two_digs (l m : List Nat) (hl : l.length = 32) (hm : m.length = 32) : List.foldl (fun cs x => cs.setIfInBounds (32 + x.snd) x.fst) (List.foldl (fun cs x => cs.setIfInBounds x.snd x.fst) (zb 64) (List.map u8 l).zipIdx) (List.map u8 m).zipIdx = (l.map u8 ++ m.map u8).toArray := by
  have h1 := fold_put (l.map u8) (zb 64) 0 0 (by simp [hl, zb, brow])
  simp only [Nat.zero_add] at h1
  rw [h1, fold_put (m.map u8) _ 32 0 (by simp [hl, hm, zb, brow])]
  simp [hl, hm, zb, brow, List.take_append, List.drop_append]
theorem RdD.two {w : World} {g : Nat} {l m : List Nat} {t : TypeId} {fr : Nat × Nat} (h : w.heap[g]? = some (.cells (l.map u8 ++ m.map u8).toArray t fr)) (hl : l.length = 32) (hm : m.length = 32) (hlb : ∀ x ∈ l, x < 256) (hmb : ∀ x ∈ m, x < 256) : RdD w (.slice (some ⟨g, 0, none⟩) 2 2) [l, m] := by
  refine ⟨_, 2, 2, rfl, rfl, Nat.le_refl _, by omega, ?_, fun _ => ⟨g, 0, rfl, fun i hi => ?_⟩⟩
  · intro d hd
    simp only [List.mem_cons, List.not_mem_nil, or_false] at hd
    rcases hd with rfl | rfl
    · exact ⟨hl, hlb⟩
    · exact ⟨hm, hmb⟩
  · rcases (by omega : i = 0 ∨ i = 1) with rfl | rfl
    · intro j v hv
      have hv' : (l.map u8)[j]? = some v := hv
      have hj := (List.getElem?_eq_some_iff.1 hv').1
      rw [cell_of_row w g _ _ t fr h]
      simp only [Nat.zero_mul, Nat.zero_add]
      rw [List.getElem?_toArray, List.getElem?_append_left hj]
      exact hv'
    · intro j v hv
      rw [cell_of_row w g _ _ t fr h]
      simp only [Nat.one_mul, Nat.zero_add]
      rw [List.getElem?_toArray, List.getElem?_append_right (by simp [hl]), List.length_map, hl, Nat.add_sub_cancel_left]
      exact hv
theorem range_row {w : World} {g : Nat} {l : List Nat} {t : TypeId} {fr : Nat × Nat} (h : w.heap[g]? = some (.cells (brow l) t fr)) : w.rangeAt g 0 (l.map u8) := by
  intro j v hv
  rw [cell_of_row w g _ _ t fr h, Nat.zero_add, brow, List.getElem?_toArray]
  exact hv
theorem alloc_at (w : World) (a : Obj) (b : Obj) : ((w.alloc a).alloc b).heap[w.heap.size + 1]? = some b := by
  have h9 := heap_alloc_new (w.alloc a) b
  have e : (w.alloc a).heap.size = w.heap.size + 1 := Array.size_push _
  rw [e] at h9
  exact h9
theorem alloc3_at (w : World) (a b c : Obj) : (((w.alloc a).alloc b).alloc c).heap[w.heap.size + 1 + 1]? = some c := by
  have h9 := alloc_at (w.alloc a) b c
  have e : (w.alloc a).heap.size = w.heap.size + 1 := Array.size_push _
  rw [e] at h9
  exact h9
theorem RdD.one {w : World} {g : Nat} {l : List Nat} {t : TypeId} {fr : Nat × Nat} (h : w.heap[g]? = some (.cells (brow l) t fr)) (hl : Dg l) : RdD w (.slice (some ⟨g, 0, none⟩) 1 1) [l] := by
  refine ⟨_, 1, 1, rfl, rfl, Nat.le_refl _, by omega, fun d hd => by simp at hd; subst hd; exact hl, fun _ => ⟨g, 0, rfl, fun i hi => ?_⟩⟩
  obtain rfl : i = 0 := by omega
  exact range_row h
theorem one_dig (l : List Nat) (hl : l.length = 32) : List.foldl (fun cs x => cs.setIfInBounds x.snd x.fst) (zb 32) (List.map u8 l).zipIdx = brow l := by
  have h := fold_put (l.map u8) (zb 32) 0 0 (by rw [zb_size]; simp [hl])
  simp only [Nat.zero_add] at h
  rw [h]
  unfold brow
  rw [List.take_zero, List.nil_append, List.drop_eq_nil_of_le (by rw [List.length_map, hl, Array.length_toList, zb_size]; exact Nat.le_refl _), List.append_nil]
end Go.Proofs.Ytclgblilgpfllab
