import Derived.Test.YtejchncdimcdbaaGreatDoorDk17
namespace Go.Proofs.YtejchncdimcdbaaGreatDoor
open Go.RowKit Go.BigFrame
set_option linter.unusedVariables false
set_option linter.unusedSimpArgs false

theorem heap_setCells (b : Nat) (e : TypeId) : ∀ (vs : List Value) (o : Nat) (w : World) (cur : Array Value), w.heap[b]? = some (.cells cur e (0, 0)) → o + vs.length ≤ cur.size →
    ∃ cur', (w.setCells b o vs).heap[b]? = some (.cells cur' e (0, 0)) ∧ cur'.size = cur.size ∧ cur'.toList.take (o + vs.length) = cur.toList.take o ++ vs ∧ Kept [b] w (w.setCells b o vs)
  | [], o, w, cur, h, hl => ⟨cur, h, rfl, by simp, Kept.refl _ _⟩
  | v :: vs, o, w, cur, h, hl => by
    have h1 := heap_setCell_same w b o cur e v h
    simp only [List.length_cons] at hl
    obtain ⟨cur', h2, h3, h4, h5⟩ := heap_setCells b e vs (o + 1) (w.setCell ⟨b, o, none⟩ v) _ h1 (by simp; omega)
    refine ⟨cur', h2, by rw [h3]; simp, ?_, ((Kept.refl [b] w).setCell (p := ⟨b, o, none⟩) (.inl (by simp)) v).trans h5 (fun x hx => .inl hx)⟩
    have h6 : o + (v :: vs).length = o + 1 + vs.length := by simp only [List.length_cons]; omega
    rw [h6, h4]
    have h7 : (cur.setIfInBounds o v).toList.take (o + 1) = cur.toList.take o ++ [v] := by
      rw [Array.toList_setIfInBounds]
      apply List.ext_getElem?
      intro j
      rw [List.getElem?_take, List.getElem?_append]
      have hol : (cur.toList.take o).length = o := by rw [List.length_take, Array.length_toList]; omega
      rw [hol]
      by_cases hj : j < o
      · rw [if_pos (by omega), if_pos hj, List.getElem?_set, if_neg (by omega), List.getElem?_take, if_pos hj]
      · rw [if_neg hj]
        by_cases hj2 : j = o
        · subst hj2
          rw [if_pos (by omega), List.getElem?_set, if_pos rfl, Array.length_toList, if_pos (by omega)]
          simp
        · rw [if_neg (by omega), List.getElem?_eq_none (by simp; omega)]
    rw [h7, List.append_assoc]
    rfl

/-- 'append(x, make([]byte, m)...)' behind a row that is owned. -/
theorem appendZ (w : World) (g cap m : Nat) (bs : List Nat) (h : w.ownsRow 0 5 1 (.slice (some ⟨g, 0, none⟩) bs.length cap) bs.length (bs.map u8)) (hl : bs.length + m ≤ 140737488355328) (hm : m ≤ 4096) :
    ∃ g' cap' w1, (Builtin.append_ #[72, 3] 72 #[.slice (some ⟨g, 0, none⟩) bs.length cap, .int .i64 m]).run Tryz.prog w = .ok (.slice (some ⟨g', 0, none⟩) (bs.length + m) cap') w1 ∧
      w1.ownsRow 0 5 1 (.slice (some ⟨g', 0, none⟩) (bs.length + m) cap') (bs ++ List.replicate m 0).length ((bs ++ List.replicate m 0).map u8) ∧ Kept [g] w w1 ∧ (g' = g ∨ g' = w.heap.size) := by
  rcases h.2 with ⟨h9, _⟩ | ⟨g0, c0, cur, h1, _, hg, hle, hmx, hs, ht⟩
  · cases h9
  injection h1 with h1 _ h1c
  injection h1 with h1
  injection h1 with h1
  subst h1 h1c
  rw [Nat.mul_one] at hs ht
  have hlen : (bs ++ List.replicate m 0).length = bs.length + m := by simp
  have hmap : (bs ++ List.replicate m 0).map u8 = bs.map u8 ++ List.replicate m (.int .u8 0) := by simp [u8]
  by_cases hr : bs.length + m ≤ cap
  · have hrun := run_appendZ_room w g 0 bs.length cap m hr hm (fun j hj => by rw [cell_of_row w g _ _ 5 (0, 0) hg, Array.getElem?_eq_getElem (by omega)]; rfl) (fun j hj => frozen_of_row _ _ _ _ _ hg)
    obtain ⟨cur', q1, q2, q3, q4⟩ := heap_setCells g 5 (List.replicate m (.int .u8 0)) (0 + bs.length) w cur hg (by simp; omega)
    refine ⟨g, cap, _, hrun, ⟨by simp, .inr ⟨g, cap, cur', by rw [hlen], Nat.zero_le _, q1, by rw [hlen]; exact hr, hmx, by rw [q2, Nat.mul_one]; exact hs, ?_⟩⟩, q4, .inl rfl⟩
    rw [Nat.mul_one, hlen, hmap, ← ht]
    have q5 := q3
    rw [List.length_replicate, Nat.zero_add] at q5
    exact q5
  · have hp : 0 < m := by omega
    have hrun := run_appendZ_grow w ⟨g, 0, none⟩ bs.length cap m (bs.map u8) (by simp) (fun j u hj => by
      rw [Addr.add_lit, cell_of_row w g _ _ 5 (0, 0) hg, ← Array.getElem?_toList]
      rw [← ht, List.getElem?_take] at hj
      split at hj
      · simpa using hj
      · cases hj) (by omega) hl hm hp
    have hge := grownCap_ge w (bs.length + m) cap 5
    have hcm : grownCap w (bs.length + m) cap 5 ≤ maxLen := grownCap_le_maxLen w (bs.length + m) cap 5 (by unfold maxLen; omega)
    refine ⟨w.heap.size, _, _, hrun, ⟨by simp, .inr ⟨w.heap.size, _, _, by rw [hlen], Nat.zero_le _, heap_alloc_new w.drew _, by rw [hlen]; exact hge, hcm, ?_, ?_⟩⟩, ((Kept.refl [g] w).drew).alloc _, .inr rfl⟩
    · simp [Builtin.zeroCells]
      omega
    · rw [Nat.mul_one, hlen, hmap]
      simp only [Array.toList_append, List.toList_toArray]
      rw [List.take_append_of_le_length (by simp), List.take_of_length_le (by simp)]
end Go.Proofs.YtejchncdimcdbaaGreatDoor
