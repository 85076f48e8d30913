import Derived.Test.YtejchncdimcdbaaGreatDoorFuv
namespace Go.Proofs.YtejchncdimcdbaaGreatDoor
open Go.RowKit
set_option linter.unusedVariables false
set_option linter.unusedSimpArgs false

theorem fuv_le (q : List Nat) : ∀ k a, (fuv q k a).2 ≤ k + q.length := by
  induction q with
  | nil => intro k a; simp [fuv]
  | cons c r ih =>
    intro k a
    rw [fuv]
    split
    · simp
    · split
      · have := ih (k + 1) (a + c % 128 * 128 ^ k); simp only [List.length_cons]; omega
      · split
        · simp
        · simp only [List.length_cons]; omega
theorem Rd.drewN {w : World} {v : Value} {p : List Nat} (h : Rd w v p) (n : Nat) : Rd (w.drewN n) v p := h
theorem ReAt.drewN {w : World} {b : Nat} {gv : Value} {p : List Nat} {i e : Nat} (h : ReAt w b gv p i e) (n : Nat) : ReAt (w.drewN n) b gv p i e := ⟨h.at_, h.rd, h.le, h.ne⟩
theorem ReAt.setAt {w : World} {b : Nat} {gv : Value} {p : List Nat} {i e : Nat} (h : ReAt w b gv p i e) (j : Nat) (hj : j ≤ p.length) : ReAt (w.setCell ⟨b, 1, none⟩ (.int .i64 j)) b gv p j e := by
  refine ⟨?_, h.rd.kept ((Kept.refl [b] w).setCell (by simp) _) (by intro x hx; simp; rintro rfl; exact h.ne hx), hj, h.ne⟩
  rw [heap_setCell_same w b 1 _ 303 _ h.at_]; rfl
theorem ReAt.setFault {w : World} {b : Nat} {gv : Value} {p : List Nat} {i e : Nat} (h : ReAt w b gv p i e) (f : Nat) : ReAt (w.setCell ⟨b, 2, none⟩ (.int .i64 f)) b gv p i f := by
  refine ⟨?_, h.rd.kept ((Kept.refl [b] w).setCell (by simp) _) (by intro x hx; simp; rintro rfl; exact h.ne hx), h.le, h.ne⟩
  rw [heap_setCell_same w b 2 _ 303 _ h.at_]; rfl
/-- What Uvar answers; the place and the fault behind it. -/
def rUvar (p : List Nat) (i e : Nat) : Nat × Nat × Nat :=
  if e ≠ 0 then (0, i, e) else if (fuv (p.drop i) 0 0).2 = 0 then (0, i, 3) else ((fuv (p.drop i) 0 0).1, i + (fuv (p.drop i) 0 0).2, 0)
set_option maxRecDepth 100000 in
set_option maxHeartbeats 1000000 in
theorem ruvar_any (b : Nat) (gv : Value) (p : List Nat) (i e : Nat) (w : World) (h : ReAt w b gv p i e) :
    Calls Tryz.prog 214 #[.pointer (some ⟨b, 0, none⟩)] w fun r w' => r = .returned (.int .u64 (rUvar p i e).1) ∧ ReAt w' b gv p (rUvar p i e).2.1 (rUvar p i e).2.2 ∧ Kept [b] w w' := by
  have HR := hide h
  have c1 := h.c1
  have c2 := h.c2
  have f1 := h.free 1
  have f2 := h.free 2
  have hl : p.length ≤ 140737488355328 := by obtain ⟨_, _, _, _, rfl, _, ⟨_, h3⟩, _⟩ := h.rd; exact h3
  have hle := h.le
  clear h
  by_cases he : e = 0
  · subst he
    by_cases hs : (fuv (p.drop i) 0 0).2 = 0
    · have HV := hide (by simp [rUvar, hs] : rUvar p i 0 = (0, i, 3))
      obtain ⟨x, s, hx⟩ : ∃ x s, fuv (p.drop i) 0 0 = (x, s) := ⟨_, _, rfl⟩
      rw [hx] at hs
      simp only at hs
      subst hs
      have HX := hide hx
      clear hx
      go_enter Tryz.func214, Tryz.ntmps214
      go_wp2_with (first
        | (go_at_call 215; go_must (refine (rerr_any b gv p i 0 _ (unhide HR)).mono ?_; rintro r w1 ⟨rfl, hw1⟩; subst w1))
        | (go_at_call 217; go_must (refine (rleft_any b gv p i 0 _ (unhide HR)).mono ?_; rintro r w1 ⟨lv, rfl, ⟨n, hw1⟩, hq, hb⟩; subst w1; have HQ := hide hq; clear hq hb))
        | (go_at_call 243; go_must (refine (fuv_any lv (p.drop i) _ (by exact (unhide HQ).drewN _)).mono ?_; rintro r w1 ⟨rfl, hw1⟩; subst w1; rw [unhide HX])))
      go_ret
      rw [unhide HV]
      exact ⟨rfl, ((unhide HR).drewN _).setFault 3, ((Kept.refl [b] w).drewN _).setCell (by simp) _⟩
    · have HV := hide (by simp [rUvar, hs] : rUvar p i 0 = ((fuv (p.drop i) 0 0).1, i + (fuv (p.drop i) 0 0).2, 0))
      have hfl := fuv_le (p.drop i) 0 0
      obtain ⟨x, s, hx⟩ : ∃ x s, fuv (p.drop i) 0 0 = (x, s) := ⟨_, _, rfl⟩
      rw [hx] at hs HV hfl
      simp only [List.length_drop] at hs HV hfl
      have HX := hide hx
      have ts : ((s : Int) == 0) = false := by simp; omega
      clear hx
      go_enter Tryz.func214, Tryz.ntmps214
      go_wp2_with (first
        | (go_at_call 215; go_must (refine (rerr_any b gv p i 0 _ (unhide HR)).mono ?_; rintro r w1 ⟨rfl, hw1⟩; subst w1))
        | (go_at_call 217; go_must (refine (rleft_any b gv p i 0 _ (unhide HR)).mono ?_; rintro r w1 ⟨lv, rfl, ⟨n, hw1⟩, hq, hb⟩; subst w1; have HQ := hide hq; clear hq hb))
        | (go_at_call 243; go_must (refine (fuv_any lv (p.drop i) _ (by exact (unhide HQ).drewN _)).mono ?_; rintro r w1 ⟨rfl, hw1⟩; subst w1; rw [unhide HX])))
      go_ret
      rw [unhide HV]
      exact ⟨rfl, ((unhide HR).drewN _).setAt (i + s) (by omega), ((Kept.refl [b] w).drewN _).setCell (by simp) _⟩
  · have he' : ((e : Int) != 0) = true := by rw [bne_iff_ne]; omega
    have HV := hide (by simp [rUvar, he] : rUvar p i e = (0, i, e))
    clear he
    go_enter Tryz.func214, Tryz.ntmps214
    go_wp2_with (go_at_call 215; go_must (refine (rerr_any b gv p i e _ (unhide HR)).mono ?_; rintro r w1 ⟨rfl, hw1⟩; subst w1))
    go_ret
    rw [unhide HV]
    exact ⟨rfl, unhide HR, Kept.refl _ _⟩
/-- The number that bytes write, the highest first (of 64 bits the lowest). -/
def beL (bs : List Nat) : Nat := bs.foldl (fun a c => (a * 256 + c) % 18446744073709551616) 0
theorem beL_lt (bs : List Nat) : beL bs < 18446744073709551616 := by
  unfold beL
  suffices h : ∀ (l : List Nat) (a : Nat), a < 18446744073709551616 → l.foldl (fun a c => (a * 256 + c) % 18446744073709551616) a < 18446744073709551616 from h bs 0 (by decide)
  intro l
  induction l with
  | nil => intro a h; exact h
  | cons c r ih => intro a h; exact ih _ (Nat.mod_lt _ (by decide))
theorem beL_snoc (p : List Nat) (k : Nat) (h : k < p.length) : beL (p.take (k + 1)) = (beL (p.take k) * 256 + p.getD k 0) % 18446744073709551616 := by
  rw [List.take_succ_eq_append_getElem h, beL, List.foldl_append, List.getD_eq_getElem?_getD, List.getElem?_eq_getElem h]; rfl
theorem or_byte (a c : Nat) (hc : c < 256) : bits .or .u64 (IntKind.u64.wrap ((a : Int) * 256)) (c : Int) = (((a * 256 + c) % 18446744073709551616 : Nat) : Int) := by
  rw [IntKind.wrap_u64, show ((a : Int) * 256) % 18446744073709551616 = ((a * 256 % 18446744073709551616 : Nat) : Int) from by omega, u64_or_nat _ _ (Nat.mod_lt _ (by decide)) (by omega), nat_join 8 _ c (by omega) hc]
  omega
/-- What a number of n bytes answers; the place and the fault behind it. -/
def rNum (p : List Nat) (i e n : Nat) : Nat × Nat × Nat :=
  if e ≠ 0 then (0, i, e) else if p.length - i < n then (0, i, 3) else (beL ((p.drop i).take n), i + n, 0)
end Go.Proofs.YtejchncdimcdbaaGreatDoor
