import Derived.Test.YtaflchnipcmpoaaDkK
import Derived.Test.YtaflchnipcmpoaaOpenK
namespace Go.Proofs.Ytaflchnipcmpoaa
open Go.RowKit Go.BigFrame Go.Maps Go.Sort
set_option linter.unusedVariables false
set_option linter.unusedSimpArgs false

set_option maxRecDepth 100000 in
set_option maxHeartbeats 2000000 in
theorem diskNil_go (k : Int) (s : ByteArray) (pa fa ka : Option Addr) (pl pc fl fc kl kc : Nat) (cr n : Int) (w : World) :
    Calls Try.prog 6 #[.agg #[.int .i64 k, .string s, .slice pa pl pc, .slice fa fl fc, .int .i64 cr, .int .i64 n, .slice ka kl kc]] w fun e w' => e = .returned (.bool true) ∧ Kept [] w w' := by
  have hk0 := (Kept.refl [] w).alloc (.cells #[.int .i64 k, .string s, .slice pa pl pc, .slice fa fl fc, .int .i64 cr, .int .i64 n, .slice ka kl kc] 42 (0, 0))
  have hg := heap_alloc_new w (.cells #[.int .i64 k, .string s, .slice pa pl pc, .slice fa fl fc, .int .i64 cr, .int .i64 n, .slice ka kl kc] 42 (0, 0))
  obtain ⟨W, hW⟩ : ∃ W, w.alloc (.cells #[.int .i64 k, .string s, .slice pa pl pc, .slice fa fl fc, .int .i64 cr, .int .i64 n, .slice ka kl kc] 42 (0, 0)) = W := ⟨_, rfl⟩
  rw [hW] at hk0 hg
  have HW := hide hW
  have HK := hide hk0
  have HG := hide hg
  have c0 := cell_of_row _ _ 0 _ _ _ hg
  have c1 := cell_of_row _ _ 1 _ _ _ hg
  have c2 := cell_of_row _ _ 2 _ _ _ hg
  have c3 := cell_of_row _ _ 3 _ _ _ hg
  have c4 := cell_of_row _ _ 4 _ _ _ hg
  have c5 := cell_of_row _ _ 5 _ _ _ hg
  have c6 := cell_of_row _ _ 6 _ _ _ hg
  simp at c0 c1 c2 c3 c4 c5 c6
  clear hW hk0 hg
  go_enter Try.func6, Try.ntmps6
  go_wp2_with (first | (rw [unhide HW]) | fail)
  refine Calls.mono (call_nil k s pa fa ka pl pc fl fc kl kc cr n _) ?_
  rintro e w1 ⟨rfl, k1⟩
  have HK1 := hide ((unhide HK).trans k1 (by simp))
  have c0' := k1.cell c0 (by simp)
  clear k1 c0 c1 c2 c3 c4 c5 c6
  obtain ⟨E, hE⟩ : ∃ E, nilE k = E := ⟨_, rfl⟩
  rw [hE]
  by_cases h1 : 1 ≤ k
  · by_cases h5 : k ≤ 5
    · have e5 : E = 5 := by rw [← hE]; unfold nilE; rw [if_pos ⟨h1, h5⟩]
      subst e5
      clear hE
      go_wp2_with fail
      refine Calls.mono (dawake_any _) ?_
      rintro e w2 ⟨rfl, k2⟩
      have HK2 := hide ((unhide HK1).trans k2 (by simp))
      clear k2
      go_wp2_with fail
      refine Calls.mono (files_nil _) ?_
      rintro e w3 ⟨rfl, rfl⟩
      go_wp2_with fail
      refine Calls.mono (names_nil _) ?_
      rintro e w4 ⟨rfl, rfl⟩
      go_wp2_with fail
      refine Calls.mono (ops_nil _) ?_
      rintro e w5 ⟨rfl, rfl⟩
      go_wp2_with fail
      refine Calls.mono (off_nil _) ?_
      rintro e w6 ⟨rfl, rfl⟩
      go_wp2_with fail
      go_ret
      exact ⟨rfl, unhide HK2⟩
    · have e5 : E = 0 := by rw [← hE]; unfold nilE; rw [if_neg (by omega)]
      subst e5
      clear hE
      go_wp2_with fail
      refine Calls.mono (dawake_any _) ?_
      rintro e w2 ⟨rfl, k2⟩
      have HK2 := hide ((unhide HK1).trans k2 (by simp))
      clear k2
      go_wp2_with fail
      refine Calls.mono (files_nil _) ?_
      rintro e w3 ⟨rfl, rfl⟩
      go_wp2_with fail
      refine Calls.mono (names_nil _) ?_
      rintro e w4 ⟨rfl, rfl⟩
      go_wp2_with fail
      refine Calls.mono (ops_nil _) ?_
      rintro e w5 ⟨rfl, rfl⟩
      go_wp2_with fail
      refine Calls.mono (off_nil _) ?_
      rintro e w6 ⟨rfl, rfl⟩
      go_wp2_with fail
      go_ret
      exact ⟨rfl, unhide HK2⟩
  · have e5 : E = 0 := by rw [← hE]; unfold nilE; rw [if_neg (by omega)]
    subst e5
    clear hE
    go_wp2_with fail
    refine Calls.mono (dawake_any _) ?_
    rintro e w2 ⟨rfl, k2⟩
    have HK2 := hide ((unhide HK1).trans k2 (by simp))
    clear k2
    go_wp2_with fail
    refine Calls.mono (files_nil _) ?_
    rintro e w3 ⟨rfl, rfl⟩
    go_wp2_with fail
    refine Calls.mono (names_nil _) ?_
    rintro e w4 ⟨rfl, rfl⟩
    go_wp2_with fail
    refine Calls.mono (ops_nil _) ?_
    rintro e w5 ⟨rfl, rfl⟩
    go_wp2_with fail
    refine Calls.mono (off_nil _) ?_
    rintro e w6 ⟨rfl, rfl⟩
    go_wp2_with fail
    go_ret
    exact ⟨rfl, unhide HK2⟩

theorem RdC.shape {s : Nat} {w : World} {v : Value} {rows : List (List Value)} (h : RdC s w v rows) : ∃ a l c, v = .slice a l c := by obtain ⟨a, l, c, h1, _⟩ := h; exact ⟨a, l, c, h1⟩
theorem Rd.shapeS {w : World} {v : Value} {bs : List Nat} (h : Rd w v bs) : ∃ a l c, v = .slice a l c := by obtain ⟨a, l, c, h1, _⟩ := h; exact ⟨a, l, c, h1⟩
theorem diskNil_walk (o : OpD) (w : World) (ho : OkOp w o) (hw : opW o ≤ 1048576) :
    Calls Try.prog 6 #[.agg (opL o).toArray] w fun e w' => e = .returned (.bool true) ∧ Below w.heap.size w w' := by
  obtain ⟨pa, pl, pc, hp⟩ := ho.p.shapeS
  obtain ⟨fa, fl, fc, hf⟩ := ho.f.shape
  obtain ⟨ka, kl, kc, hk⟩ := ho.kk.shape
  obtain ⟨k, s, pv, ps, fv, fl', cr, n, kv, ks⟩ := o
  dsimp only at hp hf hk
  subst hp hf hk
  exact (diskNil_go k s pa fa ka pl pc fl fc kl kc cr n w).mono fun e w' h9 => ⟨h9.1, h9.2.below (Nat.le_refl _) (by simp)⟩
end Go.Proofs.Ytaflchnipcmpoaa
