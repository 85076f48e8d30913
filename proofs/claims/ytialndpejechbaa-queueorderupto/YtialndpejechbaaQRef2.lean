import Derived.Test.YtialndpejechbaaQRef
namespace Go.Proofs.Ytialndpejechbaa
open Go.RowKit Go.MuLone Go.BigFrame
set_option linter.unusedVariables false
set_option linter.unusedSimpArgs false

set_option maxRecDepth 100000 in
set_option maxHeartbeats 1000000 in
theorem lenR_any (p : Nat) (w : World) (pl : Int) (v : Value) (xs : List Value) (cl : Bool) (h : RAt w p pl v xs cl) (hl : xs.length ≤ 1000000000001) :
    Calls Try.prog 34 #[.pointer (some ⟨p, 0, none⟩)] w fun e w' => e = .returned (.int .i64 (inQ pl xs.length)) ∧ Kept [] w w' := by
  obtain ⟨ao, cap, rfl⟩ := h.vals.shape
  have c0 := cell_of_row _ _ 0 _ _ _ h.row
  have c1 := cell_of_row _ _ 1 _ _ _ h.row
  simp at c0 c1
  clear h
  by_cases hle : (xs.length : Int) ≤ pl
  · have hin : inQ pl xs.length = xs.length := if_pos hle
    have hmin : min (xs.length : Int) pl = xs.length := by omega
    have hnlt : ¬ pl < (xs.length : Int) := by omega
    go_enter Try.func34, Try.ntmps34
    go_wp2_with fail
    refine wp_region_quiet_lit (by kernel_rfl) (by kernel_rfl) ?_
    repeat (go_big_quiet_step (fail))
    refine wpQuiet_nil ?_
    rintro _ ⟨n1, rfl⟩
    go_wp2_with fail
    go_ret
    exact ⟨by rw [hin]; rfl, (Kept.refl [] w).drewN n1⟩
  · have hin : inQ pl xs.length = pl := if_neg hle
    have hmin : min (xs.length : Int) pl = pl := by omega
    have hlt : pl < (xs.length : Int) := by omega
    go_enter Try.func34, Try.ntmps34
    go_wp2_with fail
    refine wp_region_quiet_lit (by kernel_rfl) (by kernel_rfl) ?_
    repeat (go_big_quiet_step (fail))
    refine wpQuiet_nil ?_
    rintro _ ⟨n1, rfl⟩
    go_wp2_with fail
    go_ret
    exact ⟨by rw [hin]; rfl, (Kept.refl [] w).drewN n1⟩

set_option maxRecDepth 100000 in
set_option maxHeartbeats 1000000 in
theorem lineR_any (p : Nat) (w : World) (pl : Int) (v : Value) (xs : List Value) (cl : Bool) (h : RAt w p pl v xs cl) (hl : xs.length ≤ 1000000000001) (hp : 1 ≤ pl ∧ pl ≤ 64) :
    Calls Try.prog 35 #[.pointer (some ⟨p, 0, none⟩)] w fun e w' => e = .returned (.int .i64 ((xs.length : Int) - inQ pl xs.length)) ∧ Kept [] w w' := by
  obtain ⟨ao, cap, rfl⟩ := h.vals.shape
  have c0 := cell_of_row _ _ 0 _ _ _ h.row
  have c1 := cell_of_row _ _ 1 _ _ _ h.row
  simp at c0 c1
  clear h
  obtain ⟨hp1, hp2⟩ := hp
  have hwr : Go.RowKit.wrap64 ((xs.length : Int) - pl) = (xs.length : Int) - pl := by unfold Go.RowKit.wrap64; omega
  by_cases hle : (xs.length : Int) ≤ pl
  · have hin : inQ pl xs.length = xs.length := if_pos hle
    have hmax : max 0 ((xs.length : Int) - pl) = 0 := by omega
    go_enter Try.func35, Try.ntmps35
    go_wp2_with fail
    refine wp_region_quiet_lit (by kernel_rfl) (by kernel_rfl) ?_
    repeat (go_big_quiet_step (fail))
    refine wpQuiet_nil ?_
    rintro _ ⟨n1, rfl⟩
    go_wp2_with fail
    go_ret
    exact ⟨by rw [hin, Int.sub_self]; rfl, (Kept.refl [] w).drewN n1⟩
  · have hin : inQ pl xs.length = pl := if_neg hle
    have hmax : max 0 ((xs.length : Int) - pl) = (xs.length : Int) - pl := by omega
    go_enter Try.func35, Try.ntmps35
    go_wp2_with fail
    refine wp_region_quiet_lit (by kernel_rfl) (by kernel_rfl) ?_
    repeat (go_big_quiet_step (fail))
    refine wpQuiet_nil ?_
    rintro _ ⟨n1, rfl⟩
    go_wp2_with fail
    go_ret
    exact ⟨by rw [hin]; rfl, (Kept.refl [] w).drewN n1⟩

set_option maxRecDepth 100000 in
theorem closedR_any (p : Nat) (w : World) (pl : Int) (v : Value) (xs : List Value) (cl : Bool) (h : RAt w p pl v xs cl) :
    Calls Try.prog 36 #[.pointer (some ⟨p, 0, none⟩)] w fun e w' => e = .returned (.bool cl) ∧ Kept [] w w' := by
  have c2 := cell_of_row _ _ 2 _ _ _ h.row
  simp at c2
  clear h
  go_enter Try.func36, Try.ntmps36
  go_wp2
  go_ret
  exact ⟨rfl, Kept.refl _ _⟩

set_option maxRecDepth 100000 in
theorem closeR_any (p : Nat) (w : World) (pl : Int) (v : Value) (xs : List Value) (cl : Bool) (h : RAt w p pl v xs cl) :
    Calls Try.prog 33 #[.pointer (some ⟨p, 0, none⟩)] w fun e w' => e = .returned (.int .i64 (if cl then 9 else 0)) ∧ RAt w' p pl v xs true ∧ Kept [p] w w' := by
  have c2 := cell_of_row _ _ 2 _ _ _ h.row
  have z2 := frozen_of_row _ _ 2 _ _ h.row
  simp at c2
  have HQ := hide h
  have HQV := hide (h.vals.apart h.row (by decide))
  clear h
  cases cl
  · have HR4 := hide (heap_setCell_same _ _ 2 _ _ (.bool true) (unhide HQ).row)
    go_enter Try.func33, Try.ntmps33
    go_wp2
    go_ret
    have k1 := (Kept.refl [p] w).setCell (p := ⟨p, 2, none⟩) (.inl (by simp)) (.bool true)
    exact ⟨rfl, ⟨unhide HR4, (unhide HQ).vals.kept k1 (by intro y hy hm; simp at hm; subst hm; exact unhide HQV hy)⟩, k1⟩
  · go_enter Try.func33, Try.ntmps33
    go_wp2
    go_ret
    exact ⟨rfl, unhide HQ, Kept.refl _ _⟩

theorem putR_nil (x : Int) (w : World) : Calls Try.prog 31 #[.pointer none, .int .i64 x] w fun e w' => e = .returned (.tuple #[.bool false, .int .i64 5]) ∧ w' = w := by
  go_enter Try.func31, Try.ntmps31
  go_wp2
  exact bodyPost_ret (results_tmp2 rfl _ _ _) rfl ⟨rfl, rfl⟩

theorem takeR_none (w : World) : Calls Try.prog 32 #[.pointer none] w fun e w' => e = .returned (.tuple #[.int .i64 0, .bool false]) ∧ w' = w := by
  go_enter Try.func32, Try.ntmps32
  go_wp2
  exact bodyPost_ret (results_tmp2 rfl _ _ _) rfl ⟨rfl, rfl⟩

theorem lenR_nil (w : World) : Calls Try.prog 34 #[.pointer none] w fun e w' => e = .returned (.int .i64 0) ∧ w' = w := by
  go_enter Try.func34, Try.ntmps34
  go_wp2
  go_ret
  exact ⟨rfl, rfl⟩

theorem lineR_nil (w : World) : Calls Try.prog 35 #[.pointer none] w fun e w' => e = .returned (.int .i64 0) ∧ w' = w := by
  go_enter Try.func35, Try.ntmps35
  go_wp2
  go_ret
  exact ⟨rfl, rfl⟩

theorem closedR_nil (w : World) : Calls Try.prog 36 #[.pointer none] w fun e w' => e = .returned (.bool false) ∧ w' = w := by
  go_enter Try.func36, Try.ntmps36
  go_wp2
  go_ret
  exact ⟨rfl, rfl⟩

theorem closeR_nil (w : World) : Calls Try.prog 33 #[.pointer none] w fun e w' => e = .returned (.int .i64 5) ∧ w' = w := by
  go_enter Try.func33, Try.ntmps33
  go_wp2
  go_ret
  exact ⟨rfl, rfl⟩

end Go.Proofs.Ytialndpejechbaa
