import Derived.Test.YtialndpejechbaaQPut
namespace Go.Proofs.Ytialndpejechbaa
open Go.RowKit Go.MuLone Go.BigFrame
set_option linter.unusedVariables false
set_option linter.unusedSimpArgs false

set_option maxRecDepth 100000 in
set_option maxHeartbeats 1000000 in
theorem takeI_nil (q : Nat) (w : World) (pl : Int) (v : Value) (cl : Bool) (h : QAt 70 3 w q pl v [] cl) (hp : 1 ≤ pl) :
    Calls Try.prog 21 #[.pointer (some ⟨q, 0, none⟩)] w fun e w' => e = .returned (.tuple #[.int .i64 0, .bool false]) ∧ QAt 70 3 w' q pl v [] cl ∧ Kept [q] w w' := by
  obtain ⟨ao, cap, rfl⟩ := h.vals.shape
  have HQ := hide h
  clear h
  simp only [List.length_nil] at HQ ⊢
  go_enter_defers Try.func21, Try.ntmps21
  go_wp2_with (go_at_call 42; refine (noneI_any q _ pl _ _ _ _ (unhide HQ).row hp).mono ?_; rintro e w1 ⟨rfl, rfl⟩)
  refine (lock_any (unhide HQ).row).mono ?_
  rintro e w2 ⟨rfl, hr, hk⟩
  have HR := hide hr
  have HK := hide hk
  clear hr hk
  have c3 := cell_of_row _ _ 3 _ _ _ (unhide HR)
  simp at c3
  go_wp2_with fail
  refine leaves_cons (f := 39) (args := #[.pointer (some ⟨q, 0, none⟩)]) (by simp) (by simp [go_sem]) ?_
  refine (unlock_any (unhide HR) .returning).mono ?_
  rintro e u' w3 ⟨rfl, rfl, hr, hk⟩
  have h1 := (unhide HQ).vals.kept ((unhide HK).trans hk (by simp)) (by intro y hy hm; simp at hm; subst hm; exact (unhide HQ).vals.apart (unhide HQ).row (by decide) hy)
  exact ⟨_, results_tmp2 rfl _ _ _, rfl, ⟨hr, h1⟩, (unhide HK).trans hk (by simp)⟩

theorem Qr.first {w : World} {e : TypeId} {v u : Value} {ys : List Value} (h : Qr w e v (u :: ys)) : ∃ g off cap, v = .slice (some ⟨g, off, none⟩) (ys.length + 1) cap ∧ w.cell? ⟨g, off, none⟩ = some u ∧ w.frozen? ⟨g, off, none⟩ = false ∧ ys.length + 1 ≤ cap ∧ cap ≤ maxLen ∧
    ∀ z, Qr (w.setCell ⟨g, off, none⟩ z) e (if cap = 1 then .slice (some ⟨g, off, none⟩) ys.length (cap - 1) else .slice (some ⟨g, off + 1, none⟩) ys.length (cap - 1)) ys := by
  rcases h with ⟨_, h⟩ | ⟨g, off, cap, cur, rfl, hg, h1, h2, h3, h4⟩
  · cases h
  · refine ⟨g, off, cap, rfl, ?_, frozen_of_row _ _ _ _ _ hg, h1, h3, fun z => ?_⟩
    · rw [cell_of_row w g off _ e (0, 0) hg]; exact h4 0 u rfl
    · simp only [List.length_cons] at h1
      have hg2 := heap_setCell_same w g off cur e z hg
      split
      · next hc =>
        subst hc
        have hy : ys = [] := List.eq_nil_of_length_eq_zero (by omega)
        subst hy
        exact .inr ⟨g, off, 0, _, rfl, hg2, by simp, by simp; omega, by unfold maxLen; omega, fun j u hj => by simp at hj⟩
      · refine .inr ⟨g, off + 1, cap - 1, _, rfl, hg2, by omega, by simp; omega, by omega, fun j u' hj => ?_⟩
        have h5 := h4 (j + 1) u' (by simpa using hj)
        rw [Array.getElem?_setIfInBounds, if_neg (by omega)]
        rw [show off + 1 + j = off + (j + 1) by omega]; exact h5

set_option maxRecDepth 100000 in
set_option maxHeartbeats 1000000 in
theorem takeI_one (q : Nat) (w : World) (pl n : Int) (v : Value) (ys : List Value) (cl : Bool) (h : QAt 70 3 w q pl v (.int .i64 n :: ys) cl) (hp : 1 ≤ pl) :
    Calls Try.prog 21 #[.pointer (some ⟨q, 0, none⟩)] w fun e w' => e = .returned (.tuple #[.int .i64 n, .bool true]) ∧ ∃ v', QAt 70 3 w' q pl v' ys cl ∧ Kept (q :: blk v) w w' ∧ ∀ b ∈ blk v', b ∈ blk v := by
  obtain ⟨g, off, cap, rfl, _, _, hc1, hc2, _⟩ := h.vals.first
  have HQ := hide h
  have HQV := hide (h.vals.apart h.row (by decide))
  have hqg : q ≠ g := by intro e; exact unhide HQV (by simp [blk, e])
  clear h
  go_enter_defers Try.func21, Try.ntmps21
  go_wp2_with (go_at_call 42; refine (noneI_any q _ pl _ _ _ _ (unhide HQ).row hp).mono ?_; rintro e w1 ⟨rfl, rfl⟩)
  refine (lock_any (unhide HQ).row).mono ?_
  rintro e w2 ⟨rfl, hr, hk⟩
  have HR := hide hr
  have HK := hide hk
  clear hr hk
  have HV := hide ((unhide HQ).vals.kept (unhide HK) (by intro y hy hm; simp at hm; subst hm; exact unhide HQV hy))
  obtain ⟨_, _, _, he, d0, y0, _, _, HN0⟩ := (unhide HV).first
  cases he
  have HN := hide (HN0 (.int .i64 0))
  clear HN0
  have c3 := cell_of_row _ _ 3 _ _ _ (unhide HR)
  have z3 := frozen_of_row _ _ 3 _ _ (unhide HR)
  simp at c3
  have hcap1 : (0 : Int) < cap := by omega
  have e1 : ¬ ((ys.length + 1 : Nat) : Int) = 0 := by omega
  have HR3 := hide (((Kept.refl [g] w2).setCell (p := ⟨g, off, none⟩) (.inl (by simp)) (.int .i64 0)).heap (unhide HR) (by simpa using hqg))
  by_cases hcap : cap = 1
  · rw [if_pos hcap] at HN
    subst hcap
    have hy : ys = [] := List.eq_nil_of_length_eq_zero (by omega)
    subst hy
    have HN := hide (unhide HN : Qr _ 3 (.slice (some ⟨g, off, none⟩) 0 0) [])
    have HR4 := hide (heap_setCell_same _ _ 3 _ _ (.slice (some ⟨g, off, none⟩) 0 0) (unhide HR3))
    clear hc1 e1
    simp only [List.length_nil, Nat.zero_add] at *
    go_wp2_with fail
    refine leaves_cons (f := 39) (args := #[.pointer (some ⟨q, 0, none⟩)]) (by simp) (by simp [go_sem]) ?_
    refine (unlock_any (T := 70) (unhide HR4) .returning).mono ?_
    rintro e u' w4 ⟨rfl, rfl, hr, hk⟩
    have k1 : Kept [q] (w2.setCell ⟨g, off, none⟩ (.int .i64 0)) w4 := ((Kept.refl [q] _).setCell (p := ⟨q, 3, none⟩) (.inl (by simp)) _).trans hk (by simp)
    have h1 := (unhide HN).kept k1 (by intro y hy hm; simp [blk] at hy hm; exact hqg (hm.symm.trans hy))
    exact ⟨_, results_tmp2 rfl _ _ _, rfl, _, ⟨hr, h1⟩, (((unhide HK).mono (by simp)).setCell (p := ⟨g, off, none⟩) (.inl (by simp [blk])) _).trans k1 (by simp), by simp [blk]⟩
  · rw [if_neg hcap] at HN
    have HR4 := hide (heap_setCell_same _ _ 3 _ _ (.slice (some ⟨g, off + 1, none⟩) ys.length (cap - 1)) (unhide HR3))
    go_wp2_with fail
    refine leaves_cons (f := 39) (args := #[.pointer (some ⟨q, 0, none⟩)]) (by simp) (by simp [go_sem]) ?_
    refine (unlock_any (T := 70) (unhide HR4) .returning).mono ?_
    rintro e u' w4 ⟨rfl, rfl, hr, hk⟩
    have k1 : Kept [q] (w2.setCell ⟨g, off, none⟩ (.int .i64 0)) w4 := ((Kept.refl [q] _).setCell (p := ⟨q, 3, none⟩) (.inl (by simp)) _).trans hk (by simp)
    have h1 := (unhide HN).kept k1 (by intro y hy hm; simp [blk] at hy hm; exact hqg (hm.symm.trans hy))
    exact ⟨_, results_tmp2 rfl _ _ _, rfl, _, ⟨hr, h1⟩, (((unhide HK).mono (by simp)).setCell (p := ⟨g, off, none⟩) (.inl (by simp [blk])) _).trans k1 (by simp), by simp [blk]⟩

end Go.Proofs.Ytialndpejechbaa
