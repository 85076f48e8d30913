import Derived.Test.YtkcanelboloihaaRet4
import Derived.Test.YtkcanelboloihaaRBlob
import Derived.Test.YtkcanelboloihaaERead
import Derived.Deep.RegionHeld3
namespace Go.Proofs.Ytkcanelboloihaa
open Go.RowKit Go.BigFrame
set_option linter.unusedVariables false
set_option linter.unusedSimpArgs false

theorem cell_setCells_far (w : World) (b o : Nat) (vs : List Value) (a : Addr) (h : b ≠ a.block) : (w.setCells b o vs).cell? a = w.cell? a :=
  World.cell?_setCells_out b vs o w a (fun e _ => absurd e.symm h)
theorem setCells_kept {L : List Nat} {w0 : World} (b : Nat) (hb : b ∈ L ∨ w0.heap.size ≤ b) : ∀ (vs : List Value) (o : Nat) (w : World), Kept L w0 w → Kept L w0 (w.setCells b o vs)
  | [], _, _, h => h
  | v :: r, o, w, h => by rw [World.setCells]; exact setCells_kept b hb r (o + 1) _ (h.setCell hb v)
theorem setCells_heap (b : Nat) (t : TypeId) : ∀ (vs : List Value) (pre post : List Value) (w : World), post.length = vs.length → w.heap[b]? = some (.cells (pre ++ post).toArray t (0, 0)) → (w.setCells b pre.length vs).heap[b]? = some (.cells (pre ++ vs).toArray t (0, 0))
  | [], pre, post, w, hl, h => by
    have : post = [] := List.eq_nil_of_length_eq_zero (by simpa using hl)
    subst this; exact h
  | v :: r, pre, post, w, hl, h => by
    obtain ⟨x, post, rfl⟩ : ∃ x q, post = x :: q := by cases post with | nil => simp at hl | cons x q => exact ⟨x, q, rfl⟩
    rw [World.setCells]
    have h1 := heap_setCell_same w b pre.length _ t v h
    have e1 : (pre ++ x :: post).toArray.setIfInBounds pre.length v = ((pre ++ [v]) ++ post).toArray := by simp
    rw [e1] at h1
    have h2 := setCells_heap b t r (pre ++ [v]) post _ (by simpa using hl) h1
    rw [List.length_append, List.length_cons, List.length_nil, List.append_assoc] at h2
    simpa using h2
theorem setCells_row {w : World} {b : Nat} {t : TypeId} {old vs : List Value} (h : w.heap[b]? = some (.cells old.toArray t (0, 0))) (hl : old.length = vs.length) : (w.setCells b 0 vs).heap[b]? = some (.cells vs.toArray t (0, 0)) :=
  setCells_heap b t vs [] old w hl h
theorem range_row {w : World} {b : Nat} {t : TypeId} {fr : Nat × Nat} {cs : List Value} (h : w.heap[b]? = some (.cells cs.toArray t fr)) : w.rangeAt b 0 cs := fun j v hv => by
  rw [cell_of_row w b (0 + j) _ t fr h, Nat.zero_add]; simpa using hv
theorem there_row {w : World} {b : Nat} {t : TypeId} {cs : List Value} (h : w.heap[b]? = some (.cells cs.toArray t (0, 0))) : w.there b 0 cs.length := fun j hj =>
  ⟨by rw [cell_of_row w b (0 + j) _ t _ h, Nat.zero_add]; simp [hj], frozen_of_row _ _ _ _ _ h⟩
theorem range_setCell_far {w : World} {b o : Nat} {cs : List Value} (h : w.rangeAt b o cs) (p : Addr) (v : Value) (hne : p.block ≠ b) : (w.setCell p v).rangeAt b o cs := fun j x hx => by
  rw [World.cell?_setCell_far _ _ _ _ hne]; exact h j x hx
end Go.Proofs.Ytkcanelboloihaa
