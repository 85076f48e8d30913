import Derived.Test.YtialndpejechbaaQNew
import Derived.Test.YtialndpejechbaaQNil
namespace Go.Proofs.Ytialndpejechbaa
open Go.RowKit Go.MuLone Go.BigFrame
set_option linter.unusedVariables false
set_option linter.unusedSimpArgs false

/-- The document's queue at block p. -/
structure RAt (w : World) (p : Nat) (pl : Int) (v : Value) (xs : List Value) (cl : Bool) : Prop where
  row : w.heap[p]? = some (.cells #[.int .i64 pl, v, .bool cl] 72 (0, 0))
  vals : Qr w 3 v xs
theorem RAt.kept {L : List Nat} {w w' : World} {p : Nat} {pl : Int} {v : Value} {xs : List Value} {cl : Bool} (h : RAt w p pl v xs cl) (k : Kept L w w') (hp : p ∉ L) (hv : ∀ b ∈ blk v, b ∉ L) : RAt w' p pl v xs cl := ⟨k.heap h.row hp, h.vals.kept k hv⟩
theorem QAt.kept {T e : TypeId} {L : List Nat} {w w' : World} {p : Nat} {pl : Int} {v : Value} {xs : List Value} {cl : Bool} (h : QAt T e w p pl v xs cl) (k : Kept L w w') (hp : p ∉ L) (hv : ∀ b ∈ blk v, b ∉ L) : QAt T e w' p pl v xs cl := ⟨k.heap h.row hp, h.vals.kept k hv⟩

set_option maxRecDepth 100000 in
set_option maxHeartbeats 1000000 in
theorem newR_bad (pl : Int) (w : World) (h : ¬ (1 ≤ pl ∧ pl ≤ 64)) :
    Calls Try.prog 10 #[.int .i64 pl] w fun e w' => e = .returned (.tuple #[.pointer none, .int .i64 1]) ∧ Kept [] w w' := by
  by_cases h1 : pl < 1
  · go_enter Try.func10, Try.ntmps10
    go_wp2
    exact bodyPost_ret (results_tmp2 rfl _ _ _) rfl ⟨rfl, Kept.refl _ _⟩
  · have h2 : 64 < pl := by omega
    go_enter Try.func10, Try.ntmps10
    go_wp2
    exact bodyPost_ret (results_tmp2 rfl _ _ _) rfl ⟨rfl, Kept.refl _ _⟩

set_option maxRecDepth 100000 in
set_option maxHeartbeats 1000000 in
theorem newR_any (pl : Int) (w : World) (h : 1 ≤ pl ∧ pl ≤ 64) :
    Calls Try.prog 10 #[.int .i64 pl] w fun e w' => ∃ p, e = .returned (.tuple #[.pointer (some ⟨p, 0, none⟩), .int .i64 0]) ∧ w.heap.size ≤ p ∧ RAt w' p pl (.slice none 0 0) [] false ∧ Kept [] w w' := by
  obtain ⟨h1, h2⟩ := h
  have h1' : ¬ pl < 1 := by omega
  have h2' : ¬ 64 < pl := by omega
  go_enter Try.func10, Try.ntmps10
  go_wp2
  exact bodyPost_ret (results_tmp2 rfl _ _ _) rfl ⟨_, rfl, Nat.le_refl _, ⟨heap_alloc_new _ _, Qr.nil _ _⟩, (Kept.refl [] w).alloc _⟩

set_option maxRecDepth 100000 in
set_option maxHeartbeats 1000000 in
theorem putR_shut (p : Nat) (w : World) (pl x : Int) (v : Value) (xs : List Value) (h : RAt w p pl v xs true) :
    Calls Try.prog 31 #[.pointer (some ⟨p, 0, none⟩), .int .i64 x] w fun e w' => e = .returned (.tuple #[.bool false, .int .i64 9]) ∧ Kept [] w w' := by
  have c2 := cell_of_row _ _ 2 _ _ _ h.row
  simp at c2
  clear h
  go_enter Try.func31, Try.ntmps31
  go_wp2
  exact bodyPost_ret (results_tmp2 rfl _ _ _) rfl ⟨rfl, Kept.refl _ _⟩

set_option maxRecDepth 100000 in
set_option maxHeartbeats 1000000 in
theorem putR_open (p : Nat) (w : World) (pl x : Int) (v : Value) (xs : List Value) (h : RAt w p pl v xs false) (hl : xs.length ≤ 1000000000000) :
    Calls Try.prog 31 #[.pointer (some ⟨p, 0, none⟩), .int .i64 x] w fun e w' => e = .returned (.tuple #[.bool (decide ((xs.length : Int) + 1 ≤ pl)), .int .i64 0]) ∧ ∃ v', RAt w' p pl v' (xs ++ [.int .i64 x]) false ∧ Kept (p :: blk v) w w' ∧ ∀ b ∈ blk v', b ∈ blk v ∨ w.heap.size ≤ b := by
  have HR := hide h.row
  have HV2 := hide (h.vals.kept ((Kept.refl [] w).alloc (.cells #[.int .i64 x] 3)) (by simp))
  have HR2 := hide (((Kept.refl [] w).alloc (.cells #[.int .i64 x] 3)).heap h.row (by simp))
  have HQV := hide (h.vals.apart h.row (by decide))
  have c1 := cell_of_row _ _ 1 _ _ _ h.row
  have c2 := cell_of_row _ _ 2 _ _ _ h.row
  have z1 := frozen_of_row _ _ 1 _ _ h.row
  simp at c1 c2
  clear h
  go_enter Try.func31, Try.ntmps31
  go_wp2_with (refine wpList_pushQ rfl _ _ 68 3 rfl (.int .i64 0) 8 Try.underlying68 Try.infoI rfl (by decide) _ v xs (.int .i64 x) w.heap.size (unhide HV2) (heap_alloc_new _ _) rfl hl rfl rfl ?_; intro ao cap w3 A1 A2 A3; have HR3 := hide ((unhide A2).heap (unhide HR2) (unhide HQV)); have d0 := cell_of_row _ _ 0 _ _ _ (unhide HR3); have d1 := cell_of_row _ _ 1 _ _ _ (unhide HR3); have y1 := frozen_of_row _ _ 1 _ _ (unhide HR3); simp at d0 d1; have HR4 := hide (heap_setCell_same _ _ 1 _ _ (.slice ao (xs.length + 1) cap) (unhide HR3)); clear HV2 HR3 c1 c2 z1)
  have HK4 := hide ((Kept.refl [p] w3).setCell (p := ⟨p, 1, none⟩) (.inl (by simp)) (.slice ao (xs.length + 1) cap))
  obtain ⟨W4, hW4⟩ : ∃ W, w3.setCell ⟨p, 1, none⟩ (.slice ao (xs.length + 1) cap) = W := ⟨_, rfl⟩
  rw [hW4] at HR4 HK4 ⊢
  clear hW4 d0 d1 y1
  have d0 := cell_of_row _ _ 0 _ _ _ (unhide HR4)
  have d1 := cell_of_row _ _ 1 _ _ _ (unhide HR4)
  simp at d0 d1
  refine wp_quiet_tail 10 (by kernel_rfl) (by kernel_rfl) ?_
  simp only [List.take_succ_cons, List.take_zero, List.drop_succ_cons, List.drop_zero]
  repeat (go_big_quiet_step (fail))
  refine wpQuiet_nil ?_
  rintro _ ⟨n1, rfl⟩
  go_wp2_with fail
  have hsz : w.heap.size ≤ (w.alloc (.cells #[.int .i64 x] 3)).heap.size := by simp
  have k1 : Kept (p :: blk v) w w3 := ((Kept.refl (p :: blk v) w).alloc (.cells #[.int .i64 x] 3)).trans (unhide A2) (by intro y hy; left; simp [hy])
  have hA3 : ∀ b ∈ blk (.slice ao (xs.length + 1) cap), b ∈ blk v ∨ w.heap.size ≤ b := fun b hb => (unhide A3 b hb).imp id (fun h => by omega)
  have hlt := lt_of_block (unhide HR)
  have hqn : p ∉ blk (.slice ao (xs.length + 1) cap) := fun hm => (hA3 p hm).elim (unhide HQV) (fun h => by omega)
  have h1 := (unhide A1).kept ((unhide HK4).drewN n1) (by intro y hy hm; simp at hm; subst hm; exact hqn hy)
  exact bodyPost_ret (results_tmp2 rfl _ _ _) rfl ⟨by simp, _, ⟨unhide HR4, h1⟩, (k1.trans ((unhide HK4).drewN n1) (by simp)), hA3⟩

set_option maxRecDepth 100000 in
set_option maxHeartbeats 1000000 in
theorem takeR_nil (p : Nat) (w : World) (pl : Int) (v : Value) (cl : Bool) (h : RAt w p pl v [] cl) :
    Calls Try.prog 32 #[.pointer (some ⟨p, 0, none⟩)] w fun e w' => e = .returned (.tuple #[.int .i64 0, .bool false]) ∧ Kept [] w w' := by
  obtain ⟨ao, cap, rfl⟩ := h.vals.shape
  have c1 := cell_of_row _ _ 1 _ _ _ h.row
  simp at c1
  clear h
  go_enter Try.func32, Try.ntmps32
  go_wp2
  exact bodyPost_ret (results_tmp2 rfl _ _ _) rfl ⟨rfl, Kept.refl _ _⟩

theorem Qr.rest {w : World} {e : TypeId} {v u : Value} {ys : List Value} (h : Qr w e v (u :: ys)) : ∃ g off cap, v = .slice (some ⟨g, off, none⟩) (ys.length + 1) cap ∧ w.cell? ⟨g, off, none⟩ = some u ∧ ys.length + 1 ≤ cap ∧ cap ≤ maxLen ∧
    Qr w e (if cap = 1 then .slice (some ⟨g, off, none⟩) ys.length (cap - 1) else .slice (some ⟨g, off + 1, none⟩) ys.length (cap - 1)) ys := by
  rcases h with ⟨_, h⟩ | ⟨g, off, cap, cur, rfl, hg, h1, h2, h3, h4⟩
  · cases h
  · refine ⟨g, off, cap, rfl, ?_, h1, h3, ?_⟩
    · rw [cell_of_row w g off _ e (0, 0) hg]; exact h4 0 u rfl
    · simp only [List.length_cons] at h1
      split
      · next hc =>
        subst hc
        have hy : ys = [] := List.eq_nil_of_length_eq_zero (by omega)
        subst hy
        exact .inr ⟨g, off, 0, _, rfl, hg, by simp, by omega, by unfold maxLen; omega, fun j u hj => by simp at hj⟩
      · refine .inr ⟨g, off + 1, cap - 1, _, rfl, hg, by omega, by omega, by omega, fun j u' hj => ?_⟩
        have h5 := h4 (j + 1) u' (by simpa using hj)
        rw [show off + 1 + j = off + (j + 1) by omega]; exact h5

set_option maxRecDepth 100000 in
set_option maxHeartbeats 1000000 in
theorem takeR_one (p : Nat) (w : World) (pl n : Int) (v : Value) (ys : List Value) (cl : Bool) (h : RAt w p pl v (.int .i64 n :: ys) cl) :
    Calls Try.prog 32 #[.pointer (some ⟨p, 0, none⟩)] w fun e w' => e = .returned (.tuple #[.int .i64 n, .bool true]) ∧ ∃ v', RAt w' p pl v' ys cl ∧ Kept [p] w w' ∧ ∀ b ∈ blk v', b ∈ blk v := by
  obtain ⟨g, off, cap, rfl, d0, hc1, hc2, hn⟩ := h.vals.rest
  have HR := hide h.row
  have HQV := hide (h.vals.apart h.row (by decide))
  have hqg : p ≠ g := by intro e; exact unhide HQV (by simp [blk, e])
  have c1 := cell_of_row _ _ 1 _ _ _ h.row
  have z1 := frozen_of_row _ _ 1 _ _ h.row
  simp at c1
  have HN := hide hn
  clear h hn
  have hcap1 : (0 : Int) < cap := by omega
  have e1 : ¬ ((ys.length + 1 : Nat) : Int) = 0 := by omega
  by_cases hcap : cap = 1
  · rw [if_pos hcap] at HN
    subst hcap
    have hy : ys = [] := List.eq_nil_of_length_eq_zero (by omega)
    subst hy
    have HN2 := hide (unhide HN : Qr _ 3 (.slice (some ⟨g, off, none⟩) 0 0) [])
    have HR4 := hide (heap_setCell_same _ _ 1 _ _ (.slice (some ⟨g, off, none⟩) 0 0) (unhide HR))
    clear hc1 e1 HN
    simp only [List.length_nil, Nat.zero_add] at *
    go_enter Try.func32, Try.ntmps32
    go_wp2_with fail
    have k1 := (Kept.refl [p] w).setCell (p := ⟨p, 1, none⟩) (.inl (by simp)) (.slice (some ⟨g, off, none⟩) 0 0)
    have h1 := (unhide HN2).kept k1 (by intro y hy hm; simp [blk] at hy hm; exact hqg (hm.symm.trans hy))
    exact bodyPost_ret (results_tmp2 rfl _ _ _) rfl ⟨rfl, _, ⟨unhide HR4, h1⟩, k1, by simp [blk]⟩
  · rw [if_neg hcap] at HN
    have HR4 := hide (heap_setCell_same _ _ 1 _ _ (.slice (some ⟨g, off + 1, none⟩) ys.length (cap - 1)) (unhide HR))
    go_enter Try.func32, Try.ntmps32
    go_wp2_with fail
    have k1 := (Kept.refl [p] w).setCell (p := ⟨p, 1, none⟩) (.inl (by simp)) (.slice (some ⟨g, off + 1, none⟩) ys.length (cap - 1))
    have h1 := (unhide HN).kept k1 (by intro y hy hm; simp [blk] at hy hm; exact hqg (hm.symm.trans hy))
    exact bodyPost_ret (results_tmp2 rfl _ _ _) rfl ⟨rfl, _, ⟨unhide HR4, h1⟩, k1, by simp [blk]⟩

end Go.Proofs.Ytialndpejechbaa
