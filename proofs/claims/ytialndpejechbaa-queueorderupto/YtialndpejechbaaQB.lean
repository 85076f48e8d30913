import Derived.Test.YtialndpejechbaaQNew
namespace Go.Proofs.Ytialndpejechbaa
open Go.RowKit Go.MuLone Go.BigFrame
set_option linter.unusedVariables false
set_option linter.unusedSimpArgs false

theorem Try.infoBy : (Try.prog.info? 41).map (fun i => (i.zero, i.size, i.bytes)) = some (some (.slice none 0 0), 1, 24) := by kernel_rfl

theorem noneB_any (q : Nat) (w : World) (pl : Int) (a b c d : Value) (h : w.heap[q]? = some (.cells #[a, b, .int .i64 pl, c, d] 79 (0, 0))) (hp : 1 ≤ pl) :
    Calls Try.prog 37 #[.pointer (some ⟨q, 0, none⟩)] w fun e w' => e = .returned (.bool false) ∧ w' = w := by
  have c2 := cell_of_row _ _ 2 _ _ _ h
  have hp0 : (pl == 0) = false := by simp; omega
  simp at c2
  clear h
  go_enter Try.func37, Try.ntmps37
  go_wp2
  go_ret
  simp

set_option maxRecDepth 100000 in
set_option maxHeartbeats 1000000 in
theorem putB_shut (q : Nat) (w : World) (pl : Int) (xa : Option Addr) (xn xc : Nat) (v : Value) (xs : List Value) (h : QAt 79 41 w q pl v xs true) (hp : 1 ≤ pl) :
    Calls Try.prog 13 #[.pointer (some ⟨q, 0, none⟩), .slice xa xn xc] w fun e w' => e = .returned (.tuple #[.bool false, .int .i64 9]) ∧ QAt 79 41 w' q pl v xs true ∧ Kept [q] w w' := by
  have HQ := hide h
  clear h
  go_enter_defers Try.func13, Try.ntmps13
  go_wp2_with (go_at_call 37; refine (noneB_any q _ pl _ _ _ _ (unhide HQ).row hp).mono ?_; rintro e w1 ⟨rfl, rfl⟩)
  refine (lock_any (unhide HQ).row).mono ?_
  rintro e w2 ⟨rfl, hr, hk⟩
  have HR := hide hr
  have HK := hide hk
  clear hr hk
  have c4 := cell_of_row _ _ 4 _ _ _ (unhide HR)
  simp at c4
  go_wp2_with fail
  refine leaves_cons (f := 39) (args := #[.pointer (some ⟨q, 0, none⟩)]) (by simp) (by simp [go_sem]) ?_
  refine (unlock_any (unhide HR) .returning).mono ?_
  rintro e u' w3 ⟨rfl, rfl, hr, hk⟩
  have h1 := (unhide HQ).vals.kept ((unhide HK).trans hk (by simp)) (by intro y hy hm; simp at hm; subst hm; exact (unhide HQ).vals.apart (unhide HQ).row (by decide) hy)
  exact ⟨_, results_tmp2 rfl _ _ _, rfl, ⟨hr, h1⟩, (unhide HK).trans hk (by simp)⟩

set_option maxRecDepth 100000 in
set_option maxHeartbeats 1000000 in
theorem putB_open (q : Nat) (w : World) (pl : Int) (xa : Option Addr) (xn xc : Nat) (v : Value) (xs : List Value) (h : QAt 79 41 w q pl v xs false) (hp : 1 ≤ pl) (hl : xs.length ≤ 1000000000000) :
    Calls Try.prog 13 #[.pointer (some ⟨q, 0, none⟩), .slice xa xn xc] w fun e w' => e = .returned (.tuple #[.bool (decide ((xs.length : Int) + 1 ≤ pl)), .int .i64 0]) ∧ ∃ v', QAt 79 41 w' q pl v' (xs ++ [.slice xa xn xc]) false ∧ Kept (q :: blk v) w w' ∧ ∀ b ∈ blk v', b ∈ blk v ∨ w.heap.size ≤ b := by
  have HQ := hide h
  clear h
  go_enter_defers Try.func13, Try.ntmps13
  go_wp2_with (go_at_call 37; refine (noneB_any q _ pl _ _ _ _ (unhide HQ).row hp).mono ?_; rintro e w1 ⟨rfl, rfl⟩)
  refine (lock_any (unhide HQ).row).mono ?_
  rintro e w2 ⟨rfl, hr, hk⟩
  have HR := hide hr
  have HK := hide hk
  clear hr hk
  have HV := hide ((unhide HQ).vals.kept (unhide HK) (by intro y hy hm; simp at hm; subst hm; exact (unhide HQ).vals.apart (unhide HQ).row (by decide) hy))
  have c2 := cell_of_row _ _ 2 _ _ _ (unhide HR)
  have c3 := cell_of_row _ _ 3 _ _ _ (unhide HR)
  have c4 := cell_of_row _ _ 4 _ _ _ (unhide HR)
  have z3 := frozen_of_row _ _ 3 _ _ (unhide HR)
  simp at c2 c3 c4
  have HV2 := hide ((unhide HV).kept ((Kept.refl [] w2).alloc (.cells #[.slice xa xn xc] 41)) (by simp))
  have HR2 := hide (((Kept.refl [] w2).alloc (.cells #[.slice xa xn xc] 41)).heap (unhide HR) (by simp))
  have HQV := hide ((unhide HV).apart (unhide HR) (by decide))
  have e1 : ((xs.length + 1 : Nat) : Int) = (xs.length : Int) + 1 := by omega
  go_wp2_with (refine wpList_pushQ rfl _ _ 36 41 rfl (.slice none 0 0) 24 Try.underlying36 Try.infoBy rfl (by decide) _ v xs (.slice xa xn xc) w2.heap.size (unhide HV2) (heap_alloc_new _ _) rfl hl rfl rfl ?_; intro ao cap w3 A1 A2 A3; have HR3 := hide ((unhide A2).heap (unhide HR2) (unhide HQV)); have d2 := cell_of_row _ _ 2 _ _ _ (unhide HR3); have d3 := cell_of_row _ _ 3 _ _ _ (unhide HR3); have y3 := frozen_of_row _ _ 3 _ _ (unhide HR3); simp at d2 d3; have HR4 := hide (heap_setCell_same _ _ 3 _ _ (.slice ao (xs.length + 1) cap) (unhide HR3)); clear HV2 HR3 c2 c3 c4 z3)
  have HK4 := hide ((Kept.refl [q] w3).setCell (p := ⟨q, 3, none⟩) (.inl (by simp)) (.slice ao (xs.length + 1) cap))
  obtain ⟨W4, hW4⟩ : ∃ W, w3.setCell ⟨q, 3, none⟩ (.slice ao (xs.length + 1) cap) = W := ⟨_, rfl⟩
  rw [hW4] at HR4 HK4 ⊢
  clear hW4 d2 d3 y3
  have d2 := cell_of_row _ _ 2 _ _ _ (unhide HR4)
  have d3 := cell_of_row _ _ 3 _ _ _ (unhide HR4)
  simp at d2 d3
  refine wp_quiet_tail 10 (by kernel_rfl) (by kernel_rfl) ?_
  simp only [List.take_succ_cons, List.take_zero, List.drop_succ_cons, List.drop_zero]
  repeat (go_big_quiet_step (fail))
  refine wpQuiet_nil ?_
  rintro _ ⟨n1, rfl⟩
  go_wp2_with fail
  refine leaves_cons (f := 39) (args := #[.pointer (some ⟨q, 0, none⟩)]) (by simp) (by simp [go_sem]) ?_
  refine (unlock_any (T := 79) (w := W4.drewN n1) (unhide HR4) .returning).mono ?_
  rintro e u' w4 ⟨rfl, rfl, hr, hk⟩
  have k1 : Kept (q :: blk v) w1 w3 := ((unhide HK).mono (by simp)).trans ((((Kept.refl [] w2).alloc (.cells #[.slice xa xn xc] 41)).mono (by simp : ∀ y ∈ ([] : List Nat), y ∈ blk v)).trans (unhide A2) (by intro y hy; exact .inl hy)) (by intro y hy; left; simp [hy])
  have k2 : Kept (q :: blk v) w1 w4 := (k1.trans ((unhide HK4).drewN n1) (by simp)).trans hk (by simp)
  have hA3 : ∀ b ∈ blk (.slice ao (xs.length + 1) cap), b ∈ blk v ∨ w2.heap.size ≤ b := fun b hb => (unhide A3 b hb).imp id (fun h => by simp at h; omega)
  have hlt := lt_of_block (unhide HR)
  have hqn : q ∉ blk (.slice ao (xs.length + 1) cap) := fun hm => (hA3 q hm).elim (unhide HQV) (fun h => by omega)
  have h1 := (unhide A1).kept (((unhide HK4).drewN n1).trans hk (by simp)) (by intro y hy hm; simp at hm; subst hm; exact hqn hy)
  have hsz := (unhide HK).size
  exact ⟨_, results_tmp2 rfl _ _ _, by simp [e1], _, ⟨hr, h1⟩, k2, fun b hb => (hA3 b hb).imp id (fun h => by omega)⟩

set_option maxRecDepth 100000 in
set_option maxHeartbeats 1000000 in
theorem takeB_nil (q : Nat) (w : World) (pl : Int) (v : Value) (cl : Bool) (h : QAt 79 41 w q pl v [] cl) (hp : 1 ≤ pl) :
    Calls Try.prog 15 #[.pointer (some ⟨q, 0, none⟩)] w fun e w' => e = .returned (.tuple #[.slice none 0 0, .bool false]) ∧ QAt 79 41 w' q pl v [] cl ∧ Kept [q] w w' := by
  obtain ⟨ao, cap, rfl⟩ := h.vals.shape
  have HQ := hide h
  clear h
  simp only [List.length_nil] at HQ ⊢
  go_enter_defers Try.func15, Try.ntmps15
  go_wp2_with (go_at_call 37; refine (noneB_any q _ pl _ _ _ _ (unhide HQ).row hp).mono ?_; rintro e w1 ⟨rfl, rfl⟩)
  refine (lock_any (unhide HQ).row).mono ?_
  rintro e w2 ⟨rfl, hr, hk⟩
  have HR := hide hr
  have HK := hide hk
  clear hr hk
  have c3 := cell_of_row _ _ 3 _ _ _ (unhide HR)
  simp at c3
  go_wp2_with fail
  refine leaves_cons (f := 39) (args := #[.pointer (some ⟨q, 0, none⟩)]) (by simp) (by simp [go_sem]) ?_
  refine (unlock_any (unhide HR) .returning).mono ?_
  rintro e u' w3 ⟨rfl, rfl, hr, hk⟩
  have h1 := (unhide HQ).vals.kept ((unhide HK).trans hk (by simp)) (by intro y hy hm; simp at hm; subst hm; exact (unhide HQ).vals.apart (unhide HQ).row (by decide) hy)
  exact ⟨_, results_tmp2 rfl _ _ _, rfl, ⟨hr, h1⟩, (unhide HK).trans hk (by simp)⟩

set_option maxRecDepth 100000 in
set_option maxHeartbeats 1000000 in
theorem takeB_one (q : Nat) (w : World) (pl : Int) (na : Option Addr) (nn nc : Nat) (v : Value) (ys : List Value) (cl : Bool) (h : QAt 79 41 w q pl v (.slice na nn nc :: ys) cl) (hp : 1 ≤ pl) :
    Calls Try.prog 15 #[.pointer (some ⟨q, 0, none⟩)] w fun e w' => e = .returned (.tuple #[.slice na nn nc, .bool true]) ∧ ∃ v', QAt 79 41 w' q pl v' ys cl ∧ Kept (q :: blk v) w w' ∧ ∀ b ∈ blk v', b ∈ blk v := by
  obtain ⟨g, off, cap, rfl, _, _, hc1, hc2, _⟩ := h.vals.first
  have HQ := hide h
  have HQV := hide (h.vals.apart h.row (by decide))
  have hqg : q ≠ g := by intro e; exact unhide HQV (by simp [blk, e])
  clear h
  go_enter_defers Try.func15, Try.ntmps15
  go_wp2_with (go_at_call 37; refine (noneB_any q _ pl _ _ _ _ (unhide HQ).row hp).mono ?_; rintro e w1 ⟨rfl, rfl⟩)
  refine (lock_any (unhide HQ).row).mono ?_
  rintro e w2 ⟨rfl, hr, hk⟩
  have HR := hide hr
  have HK := hide hk
  clear hr hk
  have HV := hide ((unhide HQ).vals.kept (unhide HK) (by intro y hy hm; simp at hm; subst hm; exact unhide HQV hy))
  obtain ⟨_, _, _, he, d0, y0, _, _, HN0⟩ := (unhide HV).first
  cases he
  have HN := hide (HN0 (.slice none 0 0))
  clear HN0
  have c3 := cell_of_row _ _ 3 _ _ _ (unhide HR)
  have z3 := frozen_of_row _ _ 3 _ _ (unhide HR)
  simp at c3
  have hcap1 : (0 : Int) < cap := by omega
  have e1 : ¬ ((ys.length + 1 : Nat) : Int) = 0 := by omega
  have HR3 := hide (((Kept.refl [g] w2).setCell (p := ⟨g, off, none⟩) (.inl (by simp)) (.slice none 0 0)).heap (unhide HR) (by simpa using hqg))
  by_cases hcap : cap = 1
  · rw [if_pos hcap] at HN
    subst hcap
    have hy : ys = [] := List.eq_nil_of_length_eq_zero (by omega)
    subst hy
    have HN := hide (unhide HN : Qr _ 41 (.slice (some ⟨g, off, none⟩) 0 0) [])
    have HR4 := hide (heap_setCell_same _ _ 3 _ _ (.slice (some ⟨g, off, none⟩) 0 0) (unhide HR3))
    clear hc1 e1
    simp only [List.length_nil, Nat.zero_add] at *
    go_wp2_with fail
    refine leaves_cons (f := 39) (args := #[.pointer (some ⟨q, 0, none⟩)]) (by simp) (by simp [go_sem]) ?_
    refine (unlock_any (T := 79) (unhide HR4) .returning).mono ?_
    rintro e u' w4 ⟨rfl, rfl, hr, hk⟩
    have k1 : Kept [q] (w2.setCell ⟨g, off, none⟩ (.slice none 0 0)) w4 := ((Kept.refl [q] _).setCell (p := ⟨q, 3, none⟩) (.inl (by simp)) _).trans hk (by simp)
    have h1 := (unhide HN).kept k1 (by intro y hy hm; simp [blk] at hy hm; exact hqg (hm.symm.trans hy))
    exact ⟨_, results_tmp2 rfl _ _ _, rfl, _, ⟨hr, h1⟩, (((unhide HK).mono (by simp)).setCell (p := ⟨g, off, none⟩) (.inl (by simp [blk])) _).trans k1 (by simp), by simp [blk]⟩
  · rw [if_neg hcap] at HN
    have HR4 := hide (heap_setCell_same _ _ 3 _ _ (.slice (some ⟨g, off + 1, none⟩) ys.length (cap - 1)) (unhide HR3))
    go_wp2_with fail
    refine leaves_cons (f := 39) (args := #[.pointer (some ⟨q, 0, none⟩)]) (by simp) (by simp [go_sem]) ?_
    refine (unlock_any (T := 79) (unhide HR4) .returning).mono ?_
    rintro e u' w4 ⟨rfl, rfl, hr, hk⟩
    have k1 : Kept [q] (w2.setCell ⟨g, off, none⟩ (.slice none 0 0)) w4 := ((Kept.refl [q] _).setCell (p := ⟨q, 3, none⟩) (.inl (by simp)) _).trans hk (by simp)
    have h1 := (unhide HN).kept k1 (by intro y hy hm; simp [blk] at hy hm; exact hqg (hm.symm.trans hy))
    exact ⟨_, results_tmp2 rfl _ _ _, rfl, _, ⟨hr, h1⟩, (((unhide HK).mono (by simp)).setCell (p := ⟨g, off, none⟩) (.inl (by simp [blk])) _).trans k1 (by simp), by simp [blk]⟩

set_option maxRecDepth 100000 in
set_option maxHeartbeats 1000000 in
theorem closeB_any (q : Nat) (w : World) (pl : Int) (v : Value) (xs : List Value) (cl : Bool) (h : QAt 79 41 w q pl v xs cl) (hp : 1 ≤ pl) :
    Calls Try.prog 17 #[.pointer (some ⟨q, 0, none⟩)] w fun e w' => e = .returned (.int .i64 (if cl then 9 else 0)) ∧ QAt 79 41 w' q pl v xs true ∧ Kept [q] w w' := by
  have HQ := hide h
  have HQV := hide (h.vals.apart h.row (by decide))
  clear h
  go_enter_defers Try.func17, Try.ntmps17
  go_wp2_with (go_at_call 37; refine (noneB_any q _ pl _ _ _ _ (unhide HQ).row hp).mono ?_; rintro e w1 ⟨rfl, rfl⟩)
  refine (lock_any (unhide HQ).row).mono ?_
  rintro e w2 ⟨rfl, hr, hk⟩
  have HR := hide hr
  have HK := hide hk
  clear hr hk
  have c4 := cell_of_row _ _ 4 _ _ _ (unhide HR)
  have z4 := frozen_of_row _ _ 4 _ _ (unhide HR)
  simp at c4
  cases cl
  · have HR4 := hide (heap_setCell_same _ _ 4 _ _ (.bool true) (unhide HR))
    go_wp2_with fail
    refine leaves_cons (f := 39) (args := #[.pointer (some ⟨q, 0, none⟩)]) (by simp) (by simp [go_sem]) ?_
    refine (unlock_any (T := 79) (unhide HR4) .returning).mono ?_
    rintro e u' w3 ⟨rfl, rfl, hr, hk⟩
    have k1 : Kept [q] w1 w3 := ((unhide HK).setCell (p := ⟨q, 4, none⟩) (.inl (by simp)) (.bool true)).trans hk (by simp)
    have h1 := (unhide HQ).vals.kept k1 (by intro y hy hm; simp at hm; subst hm; exact unhide HQV hy)
    exact ⟨_, results_tmp rfl _ _ _, rfl, ⟨hr, h1⟩, k1⟩
  · go_wp2_with fail
    refine leaves_cons (f := 39) (args := #[.pointer (some ⟨q, 0, none⟩)]) (by simp) (by simp [go_sem]) ?_
    refine (unlock_any (unhide HR) .returning).mono ?_
    rintro e u' w3 ⟨rfl, rfl, hr, hk⟩
    have k1 : Kept [q] w1 w3 := (unhide HK).trans hk (by simp)
    have h1 := (unhide HQ).vals.kept k1 (by intro y hy hm; simp at hm; subst hm; exact unhide HQV hy)
    exact ⟨_, results_tmp rfl _ _ _, rfl, ⟨hr, h1⟩, k1⟩

set_option maxRecDepth 100000 in
set_option maxHeartbeats 1000000 in
theorem countsB_any (q : Nat) (w : World) (pl : Int) (v : Value) (xs : List Value) (cl : Bool) (h : QAt 79 41 w q pl v xs cl) (hp : 1 ≤ pl) (hl : xs.length ≤ 1000000000001) :
    Calls Try.prog 40 #[.pointer (some ⟨q, 0, none⟩)] w fun e w' => e = .returned (.tuple #[.int .i64 (inQ pl xs.length), .int .i64 ((xs.length : Int) - inQ pl xs.length)]) ∧ QAt 79 41 w' q pl v xs cl ∧ Kept [q] w w' := by
  obtain ⟨ao, cap, rfl⟩ := h.vals.shape
  have HQ := hide h
  have HQV := hide (h.vals.apart h.row (by decide))
  clear h
  go_enter_defers Try.func40, Try.ntmps40
  go_wp2_with (go_at_call 37; refine (noneB_any q _ pl _ _ _ _ (unhide HQ).row hp).mono ?_; rintro e w1 ⟨rfl, rfl⟩)
  refine (lock_any (unhide HQ).row).mono ?_
  rintro e w2 ⟨rfl, hr, hk⟩
  have HR := hide hr
  have HK := hide hk
  clear hr hk
  have c2 := cell_of_row _ _ 2 _ _ _ (unhide HR)
  have c3 := cell_of_row _ _ 3 _ _ _ (unhide HR)
  simp at c2 c3
  have hw64 : ((xs.length : Int)) ≤ 1000000000001 := by omega
  by_cases hle : (xs.length : Int) ≤ pl
  · have hin : inQ pl xs.length = xs.length := if_pos hle
    have hmin : min (xs.length : Int) pl = xs.length := by omega
    have hnlt : ¬ pl < (xs.length : Int) := by omega
    go_wp2_with fail
    refine wp_quiet_tail 10 (by kernel_rfl) (by kernel_rfl) ?_
    simp only [List.take_succ_cons, List.take_zero, List.drop_succ_cons, List.drop_zero]
    repeat (go_big_quiet_step (fail))
    refine wpQuiet_nil ?_
    rintro _ ⟨n1, rfl⟩
    go_wp2_with fail
    refine wp_region_quiet_lit (by kernel_rfl) (by kernel_rfl) ?_
    repeat (go_big_quiet_step (fail))
    refine wpQuiet_nil ?_
    rintro _ ⟨n2, rfl⟩
    go_wp2_with fail
    refine leaves_cons (f := 39) (args := #[.pointer (some ⟨q, 0, none⟩)]) (by simp) (by simp [go_sem]) ?_
    refine (unlock_any (w := (w2.drewN n1).drewN n2) (unhide HR) .returning).mono ?_
    rintro e u' w3 ⟨rfl, rfl, hr, hk⟩
    have k1 : Kept [q] w1 w3 := (((unhide HK).drewN n1).drewN n2).trans hk (by simp)
    have h1 := (unhide HQ).vals.kept k1 (by intro y hy hm; simp at hm; subst hm; exact unhide HQV hy)
    exact ⟨_, results_tmp2 rfl _ _ _, by rw [hin, Int.sub_self]; rfl, ⟨hr, h1⟩, k1⟩
  · have hin : inQ pl xs.length = pl := if_neg hle
    have hmin : min (xs.length : Int) pl = pl := by omega
    have hlt : pl < (xs.length : Int) := by omega
    have hwr : Go.RowKit.wrap64 ((xs.length : Int) - pl) = (xs.length : Int) - pl := by unfold Go.RowKit.wrap64; omega
    go_wp2_with fail
    refine wp_quiet_tail 10 (by kernel_rfl) (by kernel_rfl) ?_
    simp only [List.take_succ_cons, List.take_zero, List.drop_succ_cons, List.drop_zero]
    repeat (go_big_quiet_step (fail))
    refine wpQuiet_nil ?_
    rintro _ ⟨n1, rfl⟩
    go_wp2_with fail
    refine wp_region_quiet_lit (by kernel_rfl) (by kernel_rfl) ?_
    repeat (go_big_quiet_step (fail))
    refine wpQuiet_nil ?_
    rintro _ ⟨n2, rfl⟩
    go_wp2_with fail
    refine leaves_cons (f := 39) (args := #[.pointer (some ⟨q, 0, none⟩)]) (by simp) (by simp [go_sem]) ?_
    refine (unlock_any (w := (w2.drewN n1).drewN n2) (unhide HR) .returning).mono ?_
    rintro e u' w3 ⟨rfl, rfl, hr, hk⟩
    have k1 : Kept [q] w1 w3 := (((unhide HK).drewN n1).drewN n2).trans hk (by simp)
    have h1 := (unhide HQ).vals.kept k1 (by intro y hy hm; simp at hm; subst hm; exact unhide HQV hy)
    exact ⟨_, results_tmp2 rfl _ _ _, by rw [hin]; rfl, ⟨hr, h1⟩, k1⟩

set_option maxRecDepth 100000 in
set_option maxHeartbeats 1000000 in
theorem lenB_any (q : Nat) (w : World) (pl : Int) (v : Value) (xs : List Value) (cl : Bool) (h : QAt 79 41 w q pl v xs cl) (hp : 1 ≤ pl) (hl : xs.length ≤ 1000000000001) :
    Calls Try.prog 16 #[.pointer (some ⟨q, 0, none⟩)] w fun e w' => e = .returned (.int .i64 (inQ pl xs.length)) ∧ QAt 79 41 w' q pl v xs cl ∧ Kept [q] w w' := by
  go_enter Try.func16, Try.ntmps16
  go_wp2_with (go_at_call 40; refine (countsB_any q _ pl v xs cl h hp hl).mono ?_; rintro e w1 ⟨rfl, h1, h2⟩; have H1 := hide h1; have H2 := hide h2; clear h1 h2)
  go_ret
  exact ⟨rfl, unhide H1, unhide H2⟩

set_option maxRecDepth 100000 in
set_option maxHeartbeats 1000000 in
theorem lineB_any (q : Nat) (w : World) (pl : Int) (v : Value) (xs : List Value) (cl : Bool) (h : QAt 79 41 w q pl v xs cl) (hp : 1 ≤ pl) (hl : xs.length ≤ 1000000000001) :
    Calls Try.prog 14 #[.pointer (some ⟨q, 0, none⟩)] w fun e w' => e = .returned (.int .i64 ((xs.length : Int) - inQ pl xs.length)) ∧ QAt 79 41 w' q pl v xs cl ∧ Kept [q] w w' := by
  go_enter Try.func14, Try.ntmps14
  go_wp2_with (go_at_call 40; refine (countsB_any q _ pl v xs cl h hp hl).mono ?_; rintro e w1 ⟨rfl, h1, h2⟩; have H1 := hide h1; have H2 := hide h2; clear h1 h2)
  go_ret
  exact ⟨rfl, unhide H1, unhide H2⟩

set_option maxRecDepth 100000 in
set_option maxHeartbeats 1000000 in
theorem newB_bad (pl : Int) (w : World) (h : ¬ (1 ≤ pl ∧ pl ≤ 64)) :
    Calls Try.prog 12 #[.int .i64 pl] w fun e w' => e = .returned (.tuple #[.pointer none, .int .i64 1]) ∧ Kept [] w w' := by
  by_cases h1 : pl < 1
  · go_enter Try.func12, Try.ntmps12
    go_wp2
    exact bodyPost_ret (results_tmp2 rfl _ _ _) rfl ⟨rfl, Kept.refl _ _⟩
  · have h2 : 64 < pl := by omega
    go_enter Try.func12, Try.ntmps12
    go_wp2
    exact bodyPost_ret (results_tmp2 rfl _ _ _) rfl ⟨rfl, Kept.refl _ _⟩

set_option maxRecDepth 100000 in
set_option maxHeartbeats 1000000 in
theorem newB_any (pl : Int) (w : World) (h : 1 ≤ pl ∧ pl ≤ 64) :
    Calls Try.prog 12 #[.int .i64 pl] w fun e w' => ∃ q, e = .returned (.tuple #[.pointer (some ⟨q, 0, none⟩), .int .i64 0]) ∧ w.heap.size ≤ q ∧ QAt 79 41 w' q pl (.slice none 0 0) [] false ∧ Kept [] w w' := by
  obtain ⟨h1, h2⟩ := h
  have h1' : ¬ pl < 1 := by omega
  have h2' : ¬ 64 < pl := by omega
  go_enter Try.func12, Try.ntmps12
  go_wp2
  exact bodyPost_ret (results_tmp2 rfl _ _ _) rfl ⟨_, rfl, Nat.le_refl _, ⟨heap_alloc_new _ _, Qr.nil _ _⟩, (Kept.refl [] w).alloc _⟩

end Go.Proofs.Ytialndpejechbaa
