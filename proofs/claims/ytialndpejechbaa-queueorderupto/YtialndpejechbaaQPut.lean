import Derived.Test.YtialndpejechbaaQNone
import Derived.Test.YtialndpejechbaaQTail
namespace Go.Proofs.Ytialndpejechbaa
open Go.RowKit Go.MuLone Go.BigFrame
set_option linter.unusedVariables false
set_option linter.unusedSimpArgs false

theorem Try.infoI : (Try.prog.info? 3).map (fun i => (i.zero, i.size, i.bytes)) = some (some (.int .i64 0), 1, 8) := by kernel_rfl
/-- Behind Lock. -/
theorem locked {T : TypeId} {w : World} {q : Nat} {a b c d x : Value} (h : w.heap[q]? = some (.cells #[x, a, b, c, d] T (0, 0))) (y : Value) :
    (w.setCell ⟨q, 0, none⟩ y).heap[q]? = some (.cells #[y, a, b, c, d] T (0, 0)) := heap_setCell_same _ _ 0 _ _ _ h
theorem lock_any {T : TypeId} {w : World} {q : Nat} {a b c d : Value} (h : w.heap[q]? = some (.cells #[.int .i32 0, a, b, c, d] T (0, 0))) :
    Calls Try.prog 38 #[.pointer (some ⟨q, 0, none⟩)] w fun e w' => e = .returned (.tuple #[]) ∧ w'.heap[q]? = some (.cells #[.int .i32 1, a, b, c, d] T (0, 0)) ∧ Kept [q] w w' := by
  refine (lock_free muLib ⟨q, 0, none⟩ w (by rw [cell_of_row _ _ 0 _ _ _ h]; rfl) (frozen_of_row _ _ 0 _ _ h)).mono ?_
  rintro e w' ⟨rfl, rfl⟩
  exact ⟨rfl, locked h _, (Kept.refl [q] _).setCell (p := ⟨q, 0, none⟩) (Or.inl (by simp)) _⟩
theorem unlock_any {T : TypeId} {w : World} {q : Nat} {a b c d : Value} (h : w.heap[q]? = some (.cells #[.int .i32 1, a, b, c, d] T (0, 0))) (u : FrameMode) :
    CallsD Try.prog 39 #[.pointer (some ⟨q, 0, none⟩)] u w fun e u' w' => u' = u ∧ e = .returned (.tuple #[]) ∧ w'.heap[q]? = some (.cells #[.int .i32 0, a, b, c, d] T (0, 0)) ∧ Kept [q] w w' := by
  refine (unlock_deferred muLib ⟨q, 0, none⟩ u w (by rw [cell_of_row _ _ 0 _ _ _ h]; rfl) (frozen_of_row _ _ 0 _ _ h)).mono ?_
  rintro e u' w' ⟨rfl, rfl, rfl⟩
  exact ⟨rfl, rfl, locked h _, (Kept.refl [q] _).setCell (p := ⟨q, 0, none⟩) (Or.inl (by simp)) _⟩

set_option maxRecDepth 100000 in
set_option maxHeartbeats 1000000 in
theorem putI_shut (q : Nat) (w : World) (pl x : Int) (v : Value) (xs : List Value) (h : QAt 70 3 w q pl v xs true) (hp : 1 ≤ pl) :
    Calls Try.prog 19 #[.pointer (some ⟨q, 0, none⟩), .int .i64 x] w fun e w' => e = .returned (.tuple #[.bool false, .int .i64 9]) ∧ QAt 70 3 w' q pl v xs true ∧ Kept [q] w w' := by
  have HQ := hide h
  clear h
  go_enter_defers Try.func19, Try.ntmps19
  go_wp2_with (go_at_call 42; refine (noneI_any q _ pl _ _ _ _ (unhide HQ).row hp).mono ?_; rintro e w1 ⟨rfl, rfl⟩)
  refine (lock_any (unhide HQ).row).mono ?_
  rintro e w2 ⟨rfl, hr, hk⟩
  have HR := hide hr
  have HK := hide hk
  clear hr hk
  have c4 := cell_of_row _ _ 4 _ _ _ (unhide HR)
  simp at c4
  go_wp2_with fail
  refine leaves_cons (f := 39) (args := #[.pointer (some ⟨q, 0, none⟩)]) (by simp) (by simp [go_sem]) ?_
  refine (unlock_any (unhide HR) .returning).mono ?_
  rintro e u' w3 ⟨rfl, rfl, hr, hk⟩
  have h1 := (unhide HQ).vals.kept ((unhide HK).trans hk (by simp)) (by intro y hy hm; simp at hm; subst hm; exact (unhide HQ).vals.apart (unhide HQ).row (by decide) hy)
  exact ⟨_, results_tmp2 rfl _ _ _, rfl, ⟨hr, h1⟩, (unhide HK).trans hk (by simp)⟩

set_option maxRecDepth 100000 in
set_option maxHeartbeats 1000000 in
theorem putI_open (q : Nat) (w : World) (pl x : Int) (v : Value) (xs : List Value) (h : QAt 70 3 w q pl v xs false) (hp : 1 ≤ pl) (hl : xs.length ≤ 1000000000000) :
    Calls Try.prog 19 #[.pointer (some ⟨q, 0, none⟩), .int .i64 x] w fun e w' => e = .returned (.tuple #[.bool (decide ((xs.length : Int) + 1 ≤ pl)), .int .i64 0]) ∧ ∃ v', QAt 70 3 w' q pl v' (xs ++ [.int .i64 x]) false ∧ Kept (q :: blk v) w w' ∧ ∀ b ∈ blk v', b ∈ blk v ∨ w.heap.size ≤ b := by
  have HQ := hide h
  clear h
  go_enter_defers Try.func19, Try.ntmps19
  go_wp2_with (go_at_call 42; refine (noneI_any q _ pl _ _ _ _ (unhide HQ).row hp).mono ?_; rintro e w1 ⟨rfl, rfl⟩)
  refine (lock_any (unhide HQ).row).mono ?_
  rintro e w2 ⟨rfl, hr, hk⟩
  have HR := hide hr
  have HK := hide hk
  clear hr hk
  have HV := hide ((unhide HQ).vals.kept (unhide HK) (by intro y hy hm; simp at hm; subst hm; exact (unhide HQ).vals.apart (unhide HQ).row (by decide) hy))
  have c2 := cell_of_row _ _ 2 _ _ _ (unhide HR)
  have c3 := cell_of_row _ _ 3 _ _ _ (unhide HR)
  have c4 := cell_of_row _ _ 4 _ _ _ (unhide HR)
  have z3 := frozen_of_row _ _ 3 _ _ (unhide HR)
  simp at c2 c3 c4
  have HV2 := hide ((unhide HV).kept ((Kept.refl [] w2).alloc (.cells #[.int .i64 x] 3)) (by simp))
  have HR2 := hide (((Kept.refl [] w2).alloc (.cells #[.int .i64 x] 3)).heap (unhide HR) (by simp))
  have HQV := hide ((unhide HV).apart (unhide HR) (by decide))
  have e1 : ((xs.length + 1 : Nat) : Int) = (xs.length : Int) + 1 := by omega
  go_wp2_with (refine wpList_pushQ rfl _ _ 68 3 rfl (.int .i64 0) 8 Try.underlying68 Try.infoI rfl (by decide) _ v xs (.int .i64 x) w2.heap.size (unhide HV2) (heap_alloc_new _ _) rfl hl rfl rfl ?_; intro ao cap w3 A1 A2 A3; have HR3 := hide ((unhide A2).heap (unhide HR2) (unhide HQV)); have d2 := cell_of_row _ _ 2 _ _ _ (unhide HR3); have d3 := cell_of_row _ _ 3 _ _ _ (unhide HR3); have y3 := frozen_of_row _ _ 3 _ _ (unhide HR3); simp at d2 d3; have HR4 := hide (heap_setCell_same _ _ 3 _ _ (.slice ao (xs.length + 1) cap) (unhide HR3)); clear HV2 HR3 c2 c3 c4 z3)
  have HK4 := hide ((Kept.refl [q] w3).setCell (p := ⟨q, 3, none⟩) (.inl (by simp)) (.slice ao (xs.length + 1) cap))
  obtain ⟨W4, hW4⟩ : ∃ W, w3.setCell ⟨q, 3, none⟩ (.slice ao (xs.length + 1) cap) = W := ⟨_, rfl⟩
  rw [hW4] at HR4 HK4 ⊢
  clear hW4 d2 d3 y3
  have d2 := cell_of_row _ _ 2 _ _ _ (unhide HR4)
  have d3 := cell_of_row _ _ 3 _ _ _ (unhide HR4)
  simp at d2 d3
  refine wp_quiet_tail 10 (by kernel_rfl) (by kernel_rfl) ?_
  simp only [List.take_succ_cons, List.take_zero, List.drop_succ_cons, List.drop_zero]
  repeat (go_big_quiet_step (fail))
  refine wpQuiet_nil ?_
  rintro _ ⟨n1, rfl⟩
  go_wp2_with fail
  refine leaves_cons (f := 39) (args := #[.pointer (some ⟨q, 0, none⟩)]) (by simp) (by simp [go_sem]) ?_
  refine (unlock_any (T := 70) (w := W4.drewN n1) (unhide HR4) .returning).mono ?_
  rintro e u' w4 ⟨rfl, rfl, hr, hk⟩
  have k1 : Kept (q :: blk v) w1 w3 := ((unhide HK).mono (by simp)).trans ((((Kept.refl [] w2).alloc (.cells #[.int .i64 x] 3)).mono (by simp : ∀ y ∈ ([] : List Nat), y ∈ blk v)).trans (unhide A2) (by intro y hy; exact .inl hy)) (by intro y hy; left; simp [hy])
  have k2 : Kept (q :: blk v) w1 w4 := (k1.trans ((unhide HK4).drewN n1) (by simp)).trans hk (by simp)
  have hA3 : ∀ b ∈ blk (.slice ao (xs.length + 1) cap), b ∈ blk v ∨ w2.heap.size ≤ b := fun b hb => (unhide A3 b hb).imp id (fun h => by simp at h; omega)
  have hlt := lt_of_block (unhide HR)
  have hqn : q ∉ blk (.slice ao (xs.length + 1) cap) := fun hm => (hA3 q hm).elim (unhide HQV) (fun h => by omega)
  have h1 := (unhide A1).kept (((unhide HK4).drewN n1).trans hk (by simp)) (by intro y hy hm; simp at hm; subst hm; exact hqn hy)
  have hsz := (unhide HK).size
  exact ⟨_, results_tmp2 rfl _ _ _, by simp [e1], _, ⟨hr, h1⟩, k2, fun b hb => (hA3 b hb).imp id (fun h => by omega)⟩

end Go.Proofs.Ytialndpejechbaa
