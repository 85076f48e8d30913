import Derived.Test.YtecadmldnjlibaaDoorDForm
namespace Go.Proofs.YtecadmldnjlibaaDoor
open Go.RowKit Go.BigFrame
set_option linter.unusedVariables false
set_option linter.unusedSimpArgs false

theorem range_left (w : World) (g : Nat) (a b : List Value) (t : TypeId) (fr : Nat × Nat) (x : Value) (h : w.heap[g]? = some (.cells (x :: (a ++ b)).toArray t fr)) : w.rangeAt g 1 a ∧ w.rangeAt g (1 + a.length) b := by
  constructor
  · intro j v hv
    have hj := (List.getElem?_eq_some_iff.1 hv).1
    rw [cell_of_row w g (1 + j) _ t fr h, Nat.add_comm]
    simp [List.getElem?_append_left hj, hv]
  · intro j v hv
    rw [cell_of_row w g _ _ t fr h, show 1 + a.length + j = (a.length + j) + 1 by omega]
    rw [List.getElem?_toArray, List.getElem?_cons_succ, List.getElem?_append_right (by omega), Nat.add_sub_cancel_left, hv]
theorem fold_put (vs : List Value) : ∀ (A : Array Value) (k n : Nat), k + n + vs.length ≤ A.size → (vs.zipIdx n).foldl (fun cs x => cs.setIfInBounds (k + x.2) x.1) A = (A.toList.take (k + n) ++ (vs ++ A.toList.drop (k + n + vs.length))).toArray := by
  induction vs with
  | nil => intro A k n h; simp
  | cons v vs ih =>
    intro A k n h
    rw [List.zipIdx_cons, List.foldl_cons, ih _ k (n + 1) (by simp at h ⊢; omega)]
    have hA : k + n < A.toList.length := by simp at h ⊢; omega
    rw [Array.toList_setIfInBounds]
    rw [show k + (n + 1) = k + n + 1 by omega, List.take_succ_eq_append_getElem (by simpa using hA)]
    simp only [List.take_set_of_le (Nat.le_refl _), List.getElem_set_self, List.append_assoc, List.cons_append, List.nil_append, List.length_cons]
    rw [List.drop_set_of_lt (by omega)]
    rw [show k + n + 1 + vs.length = k + n + (vs.length + 1) by omega]
theorem fold_size (vs : List Value) : ∀ (A : Array Value) (n : Nat), ((vs.zipIdx n).foldl (fun cs x => cs.setIfInBounds x.2 x.1) A).size = A.size := by
  induction vs with
  | nil => intro A n; rfl
  | cons v vs ih => intro A n; rw [List.zipIdx_cons, List.foldl_cons, ih]; simp
theorem two_digs (l m : List Nat) (hl : l.length = 32) (hm : m.length = 32) : List.foldl (fun cs x => cs.setIfInBounds (32 + x.snd) x.fst) (List.foldl (fun cs x => cs.setIfInBounds x.snd x.fst) (zb 64) (List.map u8 l).zipIdx) (List.map u8 m).zipIdx = (l.map u8 ++ m.map u8).toArray := by
  have h1 := fold_put (l.map u8) (zb 64) 0 0 (by simp [hl, zb, brow])
  simp only [Nat.zero_add] at h1
  rw [h1, fold_put (m.map u8) _ 32 0 (by simp [hl, hm, zb, brow])]
  simp [hl, hm, zb, brow, List.take_append, List.drop_append]
theorem RdD.two {w : World} {g : Nat} {l m : List Nat} {t : TypeId} {fr : Nat × Nat} (h : w.heap[g]? = some (.cells (l.map u8 ++ m.map u8).toArray t fr)) (hl : l.length = 32) (hm : m.length = 32) (hlb : ∀ x ∈ l, x < 256) (hmb : ∀ x ∈ m, x < 256) : RdD w (.slice (some ⟨g, 0, none⟩) 2 2) [l, m] := by
  refine ⟨_, 2, 2, rfl, rfl, Nat.le_refl _, by omega, ?_, fun _ => ⟨g, 0, rfl, fun i hi => ?_⟩⟩
  · intro d hd
    simp only [List.mem_cons, List.not_mem_nil, or_false] at hd
    rcases hd with rfl | rfl
    · exact ⟨hl, hlb⟩
    · exact ⟨hm, hmb⟩
  · rcases (by omega : i = 0 ∨ i = 1) with rfl | rfl
    · intro j v hv
      have hv' : (l.map u8)[j]? = some v := hv
      have hj := (List.getElem?_eq_some_iff.1 hv').1
      rw [cell_of_row w g _ _ t fr h]
      simp only [Nat.zero_mul, Nat.zero_add]
      rw [List.getElem?_toArray, List.getElem?_append_left hj]
      exact hv'
    · intro j v hv
      rw [cell_of_row w g _ _ t fr h]
      simp only [Nat.one_mul, Nat.zero_add]
      rw [List.getElem?_toArray, List.getElem?_append_right (by simp [hl]), List.length_map, hl, Nat.add_sub_cancel_left]
      exact hv

/-- The cells of a Root. -/
def rootC (s : Nat) (l m : List Nat) : List Value := .int .u64 (s : Int) :: (l.map u8 ++ m.map u8)
def rootB (z : Int) (s : Nat) (l m : List Nat) : List Nat := 6 :: (wide s 8 ++ (l.take z.toNat ++ m.take z.toNat))
/-- The first k bytes of an array of 32 that lies in a block. -/
theorem rd_dig {w : World} {b o k : Nat} {l : List Nat} (h : w.rangeAt b o (l.map u8)) (hl : l.length = 32) (hb : ∀ x ∈ l, x < 256) (hk : k ≤ 32) : Rd w (.slice (some ⟨b, o, none⟩) k 32) (l.take k) := by
  refine ⟨_, _, _, rfl, by simp [hl]; omega, by omega, ⟨by omega, by omega⟩, fun h => by simp at h, take_byte hb, fun hp => ⟨b, o, rfl, fun i hi => ?_⟩⟩
  have hi' : i < l.length := by omega
  have hik : i < k := hi
  rw [h i (u8 (l.getD i 0)) (by rw [List.getElem?_map, List.getElem?_eq_getElem hi', List.getD_eq_getElem?_getD, List.getElem?_eq_getElem hi']; rfl)]
  rw [List.getD_eq_getElem?_getD, List.getD_eq_getElem?_getD, List.getElem?_take, if_pos hik]
theorem range_kept {L : List Nat} {w w' : World} {b o : Nat} {cs : List Value} (h : w.rangeAt b o cs) (k : Kept L w w') (hb : b ∉ L) : w'.rangeAt b o cs := fun j v hv => k.cell (h j v hv) hb

end Go.Proofs.YtecadmldnjlibaaDoor
