import Derived.Test.YtialndpejechbaaQTake
namespace Go.Proofs.Ytialndpejechbaa
open Go.RowKit Go.MuLone Go.BigFrame
set_option linter.unusedVariables false
set_option linter.unusedSimpArgs false

set_option maxRecDepth 100000 in
set_option maxHeartbeats 1000000 in
theorem closeI_any (q : Nat) (w : World) (pl : Int) (v : Value) (xs : List Value) (cl : Bool) (h : QAt 70 3 w q pl v xs cl) (hp : 1 ≤ pl) :
    Calls Try.prog 25 #[.pointer (some ⟨q, 0, none⟩)] w fun e w' => e = .returned (.int .i64 (if cl then 9 else 0)) ∧ QAt 70 3 w' q pl v xs true ∧ Kept [q] w w' := by
  have HQ := hide h
  have HQV := hide (h.vals.apart h.row (by decide))
  clear h
  go_enter_defers Try.func25, Try.ntmps25
  go_wp2_with (go_at_call 42; refine (noneI_any q _ pl _ _ _ _ (unhide HQ).row hp).mono ?_; rintro e w1 ⟨rfl, rfl⟩)
  refine (lock_any (unhide HQ).row).mono ?_
  rintro e w2 ⟨rfl, hr, hk⟩
  have HR := hide hr
  have HK := hide hk
  clear hr hk
  have c4 := cell_of_row _ _ 4 _ _ _ (unhide HR)
  have z4 := frozen_of_row _ _ 4 _ _ (unhide HR)
  simp at c4
  cases cl
  · have HR4 := hide (heap_setCell_same _ _ 4 _ _ (.bool true) (unhide HR))
    go_wp2_with fail
    refine leaves_cons (f := 39) (args := #[.pointer (some ⟨q, 0, none⟩)]) (by simp) (by simp [go_sem]) ?_
    refine (unlock_any (T := 70) (unhide HR4) .returning).mono ?_
    rintro e u' w3 ⟨rfl, rfl, hr, hk⟩
    have k1 : Kept [q] w1 w3 := ((unhide HK).setCell (p := ⟨q, 4, none⟩) (.inl (by simp)) (.bool true)).trans hk (by simp)
    have h1 := (unhide HQ).vals.kept k1 (by intro y hy hm; simp at hm; subst hm; exact unhide HQV hy)
    exact ⟨_, results_tmp rfl _ _ _, rfl, ⟨hr, h1⟩, k1⟩
  · go_wp2_with fail
    refine leaves_cons (f := 39) (args := #[.pointer (some ⟨q, 0, none⟩)]) (by simp) (by simp [go_sem]) ?_
    refine (unlock_any (unhide HR) .returning).mono ?_
    rintro e u' w3 ⟨rfl, rfl, hr, hk⟩
    have k1 : Kept [q] w1 w3 := (unhide HK).trans hk (by simp)
    have h1 := (unhide HQ).vals.kept k1 (by intro y hy hm; simp at hm; subst hm; exact unhide HQV hy)
    exact ⟨_, results_tmp rfl _ _ _, rfl, ⟨hr, h1⟩, k1⟩

set_option maxRecDepth 100000 in
set_option maxHeartbeats 1000000 in
theorem closedI_any (q : Nat) (w : World) (pl : Int) (v : Value) (xs : List Value) (cl : Bool) (h : QAt 70 3 w q pl v xs cl) (hp : 1 ≤ pl) :
    Calls Try.prog 26 #[.pointer (some ⟨q, 0, none⟩)] w fun e w' => e = .returned (.bool cl) ∧ QAt 70 3 w' q pl v xs cl ∧ Kept [q] w w' := by
  have HQ := hide h
  have HQV := hide (h.vals.apart h.row (by decide))
  clear h
  go_enter_defers Try.func26, Try.ntmps26
  go_wp2_with (go_at_call 42; refine (noneI_any q _ pl _ _ _ _ (unhide HQ).row hp).mono ?_; rintro e w1 ⟨rfl, rfl⟩)
  refine (lock_any (unhide HQ).row).mono ?_
  rintro e w2 ⟨rfl, hr, hk⟩
  have HR := hide hr
  have HK := hide hk
  clear hr hk
  have c4 := cell_of_row _ _ 4 _ _ _ (unhide HR)
  simp at c4
  go_wp2_with fail
  refine leaves_cons (f := 39) (args := #[.pointer (some ⟨q, 0, none⟩)]) (by simp) (by simp [go_sem]) ?_
  refine (unlock_any (unhide HR) .returning).mono ?_
  rintro e u' w3 ⟨rfl, rfl, hr, hk⟩
  have k1 : Kept [q] w1 w3 := (unhide HK).trans hk (by simp)
  have h1 := (unhide HQ).vals.kept k1 (by intro y hy hm; simp at hm; subst hm; exact unhide HQV hy)
  exact ⟨_, results_tmp rfl _ _ _, rfl, ⟨hr, h1⟩, k1⟩

/-- How many stand in the queue. -/
def inQ (pl : Int) (n : Nat) : Int := if (n : Int) ≤ pl then n else pl

set_option maxRecDepth 100000 in
set_option maxHeartbeats 1000000 in
theorem countsI_any (q : Nat) (w : World) (pl : Int) (v : Value) (xs : List Value) (cl : Bool) (h : QAt 70 3 w q pl v xs cl) (hp : 1 ≤ pl) (hl : xs.length ≤ 1000000000001) :
    Calls Try.prog 44 #[.pointer (some ⟨q, 0, none⟩)] w fun e w' => e = .returned (.tuple #[.int .i64 (inQ pl xs.length), .int .i64 ((xs.length : Int) - inQ pl xs.length)]) ∧ QAt 70 3 w' q pl v xs cl ∧ Kept [q] w w' := by
  obtain ⟨ao, cap, rfl⟩ := h.vals.shape
  have HQ := hide h
  have HQV := hide (h.vals.apart h.row (by decide))
  clear h
  go_enter_defers Try.func44, Try.ntmps44
  go_wp2_with (go_at_call 42; refine (noneI_any q _ pl _ _ _ _ (unhide HQ).row hp).mono ?_; rintro e w1 ⟨rfl, rfl⟩)
  refine (lock_any (unhide HQ).row).mono ?_
  rintro e w2 ⟨rfl, hr, hk⟩
  have HR := hide hr
  have HK := hide hk
  clear hr hk
  have c2 := cell_of_row _ _ 2 _ _ _ (unhide HR)
  have c3 := cell_of_row _ _ 3 _ _ _ (unhide HR)
  simp at c2 c3
  have hw64 : ((xs.length : Int)) ≤ 1000000000001 := by omega
  by_cases hle : (xs.length : Int) ≤ pl
  · have hin : inQ pl xs.length = xs.length := if_pos hle
    have hmin : min (xs.length : Int) pl = xs.length := by omega
    have hnlt : ¬ pl < (xs.length : Int) := by omega
    go_wp2_with fail
    refine wp_quiet_tail 10 (by kernel_rfl) (by kernel_rfl) ?_
    simp only [List.take_succ_cons, List.take_zero, List.drop_succ_cons, List.drop_zero]
    repeat (go_big_quiet_step (fail))
    refine wpQuiet_nil ?_
    rintro _ ⟨n1, rfl⟩
    go_wp2_with fail
    refine wp_region_quiet_lit (by kernel_rfl) (by kernel_rfl) ?_
    repeat (go_big_quiet_step (fail))
    refine wpQuiet_nil ?_
    rintro _ ⟨n2, rfl⟩
    go_wp2_with fail
    refine leaves_cons (f := 39) (args := #[.pointer (some ⟨q, 0, none⟩)]) (by simp) (by simp [go_sem]) ?_
    refine (unlock_any (w := (w2.drewN n1).drewN n2) (unhide HR) .returning).mono ?_
    rintro e u' w3 ⟨rfl, rfl, hr, hk⟩
    have k1 : Kept [q] w1 w3 := (((unhide HK).drewN n1).drewN n2).trans hk (by simp)
    have h1 := (unhide HQ).vals.kept k1 (by intro y hy hm; simp at hm; subst hm; exact unhide HQV hy)
    exact ⟨_, results_tmp2 rfl _ _ _, by rw [hin, Int.sub_self]; rfl, ⟨hr, h1⟩, k1⟩
  · have hin : inQ pl xs.length = pl := if_neg hle
    have hmin : min (xs.length : Int) pl = pl := by omega
    have hlt : pl < (xs.length : Int) := by omega
    have hwr : Go.RowKit.wrap64 ((xs.length : Int) - pl) = (xs.length : Int) - pl := by unfold Go.RowKit.wrap64; omega
    go_wp2_with fail
    refine wp_quiet_tail 10 (by kernel_rfl) (by kernel_rfl) ?_
    simp only [List.take_succ_cons, List.take_zero, List.drop_succ_cons, List.drop_zero]
    repeat (go_big_quiet_step (fail))
    refine wpQuiet_nil ?_
    rintro _ ⟨n1, rfl⟩
    go_wp2_with fail
    refine wp_region_quiet_lit (by kernel_rfl) (by kernel_rfl) ?_
    repeat (go_big_quiet_step (fail))
    refine wpQuiet_nil ?_
    rintro _ ⟨n2, rfl⟩
    go_wp2_with fail
    refine leaves_cons (f := 39) (args := #[.pointer (some ⟨q, 0, none⟩)]) (by simp) (by simp [go_sem]) ?_
    refine (unlock_any (w := (w2.drewN n1).drewN n2) (unhide HR) .returning).mono ?_
    rintro e u' w3 ⟨rfl, rfl, hr, hk⟩
    have k1 : Kept [q] w1 w3 := (((unhide HK).drewN n1).drewN n2).trans hk (by simp)
    have h1 := (unhide HQ).vals.kept k1 (by intro y hy hm; simp at hm; subst hm; exact unhide HQV hy)
    exact ⟨_, results_tmp2 rfl _ _ _, by rw [hin]; rfl, ⟨hr, h1⟩, k1⟩

set_option maxRecDepth 100000 in
set_option maxHeartbeats 1000000 in
theorem lenI_any (q : Nat) (w : World) (pl : Int) (v : Value) (xs : List Value) (cl : Bool) (h : QAt 70 3 w q pl v xs cl) (hp : 1 ≤ pl) (hl : xs.length ≤ 1000000000001) :
    Calls Try.prog 23 #[.pointer (some ⟨q, 0, none⟩)] w fun e w' => e = .returned (.int .i64 (inQ pl xs.length)) ∧ QAt 70 3 w' q pl v xs cl ∧ Kept [q] w w' := by
  go_enter Try.func23, Try.ntmps23
  go_wp2_with (go_at_call 44; refine (countsI_any q _ pl v xs cl h hp hl).mono ?_; rintro e w1 ⟨rfl, h1, h2⟩; have H1 := hide h1; have H2 := hide h2; clear h1 h2)
  go_ret
  exact ⟨rfl, unhide H1, unhide H2⟩

set_option maxRecDepth 100000 in
set_option maxHeartbeats 1000000 in
theorem lineI_any (q : Nat) (w : World) (pl : Int) (v : Value) (xs : List Value) (cl : Bool) (h : QAt 70 3 w q pl v xs cl) (hp : 1 ≤ pl) (hl : xs.length ≤ 1000000000001) :
    Calls Try.prog 24 #[.pointer (some ⟨q, 0, none⟩)] w fun e w' => e = .returned (.int .i64 ((xs.length : Int) - inQ pl xs.length)) ∧ QAt 70 3 w' q pl v xs cl ∧ Kept [q] w w' := by
  go_enter Try.func24, Try.ntmps24
  go_wp2_with (go_at_call 44; refine (countsI_any q _ pl v xs cl h hp hl).mono ?_; rintro e w1 ⟨rfl, h1, h2⟩; have H1 := hide h1; have H2 := hide h2; clear h1 h2)
  go_ret
  exact ⟨rfl, unhide H1, unhide H2⟩

end Go.Proofs.Ytialndpejechbaa
