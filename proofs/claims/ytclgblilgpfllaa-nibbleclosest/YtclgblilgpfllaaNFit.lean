import Derived.Test.YtclgblilgpfllaaNAw
namespace Go.Proofs.Ytclgblilgpfllaa
open Go.RowKit Go.BigFrame
set_option linter.unusedVariables false
set_option linter.unusedSimpArgs false

def fitB (z : Int) (a b : List Nat) : Bool := formB z a && formB z b
theorem fit_formed {z : Int} {a b : List Nat} (h : fitB z a b = true) : formedE z [a, b] = 0 := by
  unfold fitB at h
  simp only [Bool.and_eq_true] at h
  have hw : widthB z = true := by have := h.1; unfold formB at this; simp only [Bool.and_eq_true] at this; exact this.1
  unfold formedE
  rw [if_neg (by rw [hw]; simp), if_pos (by simp [h.1, h.2])]

set_option maxRecDepth 100000 in
set_option maxHeartbeats 1000000 in
theorem fit_any (z : Int) (a b : List Nat) (w : World) (hz : -9223372036854775808 ≤ z ∧ z ≤ 9223372036854775807) (ha : Dg a) (hb : Dg b) :
    Calls Try.prog 26 #[.int .i64 z, .agg (brow a), .agg (brow b)] w fun e w' => e = .returned (.bool (fitB z a b)) ∧ Kept [] w w' := by
  have hal := ha.1
  have hbl := hb.1
  have HGA := hide (((Kept.refl [] (w.alloc (.cells (brow a) 23))).alloc (.cells (brow b) 23)).heap (heap_alloc_new w (.cells (brow a) 23)) (by simp))
  have HGB := hide (alloc_at w (.cells (brow a) 23) (.cells (brow b) 23))
  have HK0 := hide (((Kept.refl [] w).alloc (.cells (brow a) 23)).alloc (.cells (brow b) 23))
  have HZA := hide (by rw [brow_size, hal]; exact Try.size_dig : (Try.prog.info? 23).map (·.size) = some (brow a).size)
  have HZB := hide (by rw [brow_size, hbl]; exact Try.size_dig : (Try.prog.info? 23).map (·.size) = some (brow b).size)
  go_enter Try.func26, Try.ntmps26
  go_wp2_with fail
  refine Calls.mono (rwidth_any z _ hz) ?_
  rintro e w1 ⟨rfl, rfl⟩
  cases hw : widthB z with
  | false =>
    have HF := hide (by unfold fitB formB; rw [hw]; rfl : fitB z a b = false)
    clear hw
    go_wp2
    go_ret
    exact ⟨by rw [unhide HF]; rfl, unhide HK0⟩
  | true =>
    clear hw
    go_wp2_with (refine wpList_load_rowG rfl 23 _ rfl w.heap.size rfl _ (brow a) (0, 0) _ (unhide HGA) Try.underlying23 rfl (unhide HZA) ?_)
    refine Calls.mono (docForm_any z a _ hz hal ha.2) ?_
    rintro e w2 ⟨rfl, k2⟩
    have HK2 := hide ((unhide HK0).trans k2 (by simp))
    have HG2 := hide (k2.heap (unhide HGB) (by simp))
    clear k2
    cases hfa : formB z a with
    | false =>
      have HF := hide (by unfold fitB; rw [hfa]; rfl : fitB z a b = false)
      clear hfa
      go_wp2
      go_ret
      exact ⟨by rw [unhide HF]; rfl, unhide HK2⟩
    | true =>
      have HF := hide (by unfold fitB; rw [hfa]; rfl : fitB z a b = formB z b)
      clear hfa
      go_wp2_with (refine wpList_load_rowG rfl 23 _ rfl (w.heap.size + 1) rfl _ (brow b) (0, 0) _ (unhide HG2) Try.underlying23 rfl (unhide HZB) ?_)
      refine Calls.mono (docForm_any z b _ hz hbl hb.2) ?_
      rintro e w3 ⟨rfl, k3⟩
      have HK3 := hide ((unhide HK2).trans k3 (by simp))
      clear k3
      generalize formB z b = q at *
      go_wp2
      go_ret
      exact ⟨by rw [unhide HF]; rfl, unhide HK3⟩
end Go.Proofs.Ytclgblilgpfllaa
