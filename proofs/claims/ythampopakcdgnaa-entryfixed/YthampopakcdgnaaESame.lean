import Derived.Test.YthampopakcdgnaaEDoc
namespace Go.Proofs.Ythampopakcdgnaa
open Go.RowKit Go.BigFrame
set_option linter.unusedVariables false
set_option linter.unusedSimpArgs false

theorem en_eq (a b : En) : decide (a = b) = (decide (a.k = b.k) && (decide (a.key = b.key) && decide (a.val = b.val))) := by
  cases a; cases b; simp

set_option maxRecDepth 100000 in
set_option maxHeartbeats 1000000 in
theorem sameEntry_any (a b : En) (ka va kb vb : Value) (w : World) (ha : OkE w a ka va) (hb : OkE w b kb vb) :
    Calls Try.prog 13 #[.agg (enC a ka va), .agg (enC b kb vb)] w fun r w' => r = .returned (.bool (decide (a = b))) ∧ Kept [] w w' := by
  rw [en_eq]
  obtain ⟨k, key, val⟩ := a
  obtain ⟨k', key', val'⟩ := b
  have HA := hide ha
  have HB := hide hb
  clear ha hb
  simp only
  obtain ⟨X, hX⟩ : ∃ X, decide (key = key') = X := ⟨_, rfl⟩
  obtain ⟨Y, hY⟩ : ∃ X, decide (val = val') = X := ⟨_, rfl⟩
  rw [hX, hY]
  have HX := hide hX
  have HY := hide hY
  clear hX hY
  unfold enC
  simp only
  have HG := hide (((Kept.refl [] (w.alloc (.cells #[.int .u8 (k : Int), ka, va] 25))).alloc (.cells #[.int .u8 (k' : Int), kb, vb] 25)).heap (heap_alloc_new w (.cells #[.int .u8 (k : Int), ka, va] 25)) (by simp))
  have HH := hide (alloc_at w (.cells #[.int .u8 (k : Int), ka, va] 25) (.cells #[.int .u8 (k' : Int), kb, vb] 25))
  have HK0 := hide (((Kept.refl [] w).alloc (.cells #[.int .u8 (k : Int), ka, va] 25)).alloc (.cells #[.int .u8 (k' : Int), kb, vb] 25))
  go_enter Try.func13, Try.ntmps13
  by_cases hk : k = k'
  · have e1 : ((k : Int) == (k' : Int)) = true := by rw [hk]; simp
    rw [decide_eq_true hk]
    have HKE := hide hk
    clear hk
    go_wp2_with fail
    refine Calls.mono (same_any _ _ key key' _ ((unhide HA).key.old (unhide HK0) (by simp)) ((unhide HB).key.old (unhide HK0) (by simp))) ?_
    rintro r w1 ⟨rfl, n1, rfl⟩
    rw [unhide HX]
    clear HX
    have HK1 := hide ((unhide HK0).drewN n1)
    have HA1 := hide ((unhide HA).val.old (unhide HK1) (by simp))
    have HB1 := hide ((unhide HB).val.old (unhide HK1) (by simp))
    cases X with
    | true =>
      go_wp2_with fail
      refine Calls.mono (same_any _ _ val val' _ (unhide HA1) (unhide HB1)) ?_
      rintro r w2 ⟨rfl, n2, rfl⟩
      rw [unhide HY]
      clear HY
      go_wp2
      go_ret
      exact ⟨by simp, (unhide HK0).drewN _⟩
    | false =>
      go_wp2
      go_ret
      exact ⟨by simp, unhide HK1⟩
  · have e1 : ((k : Int) == (k' : Int)) = false := by rw [beq_eq_false_iff_ne]; omega
    rw [decide_eq_false hk]
    clear hk
    go_wp2
    go_ret
    exact ⟨by simp, unhide HK0⟩

theorem eput3_heap {w : World} {g : Nat} {a b c : Value} {t : TypeId} (h : w.heap[g]? = some (.cells #[a, b, c] t (0, 0))) (x y z : Value) : (((w.setCell ⟨g, 0, none⟩ x).setCell ⟨g, 1, none⟩ y).setCell ⟨g, 2, none⟩ z).heap[g]? = some (.cells #[x, y, z] t (0, 0)) := by
  rw [heap_setCell_same _ g 2 _ t _ (heap_setCell_same _ g 1 _ t _ (heap_setCell_same w g 0 _ t _ h))]; rfl
theorem eput3_kept {L : List Nat} {w0 w : World} (k : Kept L w0 w) (g : Nat) (hg : g ∈ L ∨ w0.heap.size ≤ g) (x y z : Value) : Kept L w0 (((w.setCell ⟨g, 0, none⟩ x).setCell ⟨g, 1, none⟩ y).setCell ⟨g, 2, none⟩ z) := ((k.setCell hg x).setCell hg y).setCell hg z
theorem Try.size_entry : (Try.prog.info? 25).map (·.size) = some 3 := by kernel_rfl

end Go.Proofs.Ythampopakcdgnaa
