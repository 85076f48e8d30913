import Derived.Test.YtckkalmhekfnhabGreatDoorRRaw
namespace Go.Proofs.YtckkalmhekfnhabGreatDoor
open Go.RowKit
set_option linter.unusedVariables false
set_option linter.unusedSimpArgs false

/-- What Blob answers; the place and the fault behind it. -/
def rBlob (p : List Nat) (i e : Nat) (m : Int) : List Nat × Nat × Nat :=
  if e ≠ 0 then ([], i, e) else if m < 0 then ([], i, 1) else if (fuv (p.drop i) 0 0).2 = 0 then ([], i, 3) else if m < (fuv (p.drop i) 0 0).1 then ([], i, 2)
  else if (p.drop i).length - (fuv (p.drop i) 0 0).2 < (fuv (p.drop i) 0 0).1 then ([], i, 3)
  else (((p.drop i).drop (fuv (p.drop i) 0 0).2).take (fuv (p.drop i) 0 0).1, i + ((fuv (p.drop i) 0 0).2 + (fuv (p.drop i) 0 0).1), 0)

theorem fuv_lt (q : List Nat) : ∀ k a, a < 128 ^ k → k ≤ 9 → (fuv q k a).1 < 18446744073709551616 := by
  induction q with
  | nil => intro k a _ _; simp [fuv]
  | cons c r ih =>
    intro k a ha hk
    have hn := group_next k c a ha
    rw [fuv]
    split
    · simp
    · rename_i h9
      split
      · rename_i hb
        exact ih (k + 1) _ hn (by omega)
      · split
        · simp
        · simp only
          rcases Nat.lt_or_ge k 9 with h | h
          · have h1 : 128 ^ (k + 1) ≤ 128 ^ 9 := Nat.pow_le_pow_right (by omega) (by omega)
            have h3 : (128 : Nat) ^ 9 = 9223372036854775808 := (by decide)
            omega
          · have hk9 : k = 9 := by omega
            subst hk9
            have hc : c = 1 := by omega
            subst hc
            have h3 : (128 : Nat) ^ 9 = 9223372036854775808 := (by decide)
            omega

theorem Rd.sub0 {w : World} {ao : Option Addr} {cap s x : Nat} {q : List Nat} (h : Rd w (.slice ao q.length cap) q) (hc : cap = s) (hs : s + x ≤ q.length) : Rd w (.slice ao x 0) ((q.drop s).take x) := by
  have h1 := h.drop0 hc (by omega)
  obtain ⟨_, _, _, he, _, h2, _⟩ := h
  cases he
  have hx : x = 0 := by omega
  subst hx
  have h3 : (q.drop s).length = q.length - s := by simp
  rw [← h3] at h1
  exact h1.take (by omega)
theorem Rd.sub {w : World} {ao : Option Addr} {cap s x : Nat} {q : List Nat} (h : Rd w (.slice ao q.length cap) q) (hs : s + x ≤ q.length) : Rd w (.slice (Option.map (fun x => x.add s) ao) x (cap - s)) ((q.drop s).take x) := by
  have h1 := h.drop (i := s) (by omega)
  have h3 : (q.drop s).length = q.length - s := by simp
  rw [← h3] at h1
  exact h1.take (by omega)

set_option maxRecDepth 100000 in
set_option maxHeartbeats 4000000 in
theorem rblob_any (b : Nat) (gv : Value) (p : List Nat) (i e : Nat) (n : Int) (w : World) (h : ReAt w b gv p i e) (hn : -9223372036854775808 ≤ n ∧ n ≤ 9223372036854775807) :
    Calls Tryz.prog 150 #[.pointer (some ⟨b, 0, none⟩), .int .i64 n] w fun r w' => ∃ rv, r = .returned rv ∧ Rd w' rv (rBlob p i e n).1 ∧ ReAt w' b gv p (rBlob p i e n).2.1 (rBlob p i e n).2.2 ∧ Kept [b] w w' ∧ ∀ x ∈ blk rv, w.heap.size ≤ x := by
  have HR := hide h
  have c1 := h.c1
  have c2 := h.c2
  have f1 := h.free 1
  have f2 := h.free 2
  have hl : p.length ≤ 140737488355328 := h.rd.len
  have hle := h.le
  have hne := hide h.ne
  have hblt := h.lt
  clear h
  by_cases he : e = 0
  · subst he
    obtain ⟨q, hq⟩ : ∃ q, p.drop i = q := ⟨_, rfl⟩
    have hql : q.length = p.length - i := by rw [← hq]; simp
    have HVdef := hide (by simp only [rBlob, hq, ne_eq, not_true_eq_false, if_false] : rBlob p i 0 n = if n < 0 then ([], i, 1) else if (fuv q 0 0).2 = 0 then ([], i, 3) else if n < (fuv q 0 0).1 then ([], i, 2) else if q.length - (fuv q 0 0).2 < (fuv q 0 0).1 then ([], i, 3) else ((q.drop (fuv q 0 0).2).take (fuv q 0 0).1, i + ((fuv q 0 0).2 + (fuv q 0 0).1), 0))
    have hfl := fuv_le q 0 0
    have hfx := fuv_lt q 0 0 (by decide) (by decide)
    have Hq := hide hq
    have hq47 : q.length ≤ 140737488355328 := by omega
    have hqp : i + q.length ≤ p.length := by omega
    clear hq hql
    obtain ⟨x, s, hx⟩ : ∃ x s, fuv q 0 0 = (x, s) := ⟨_, _, rfl⟩
    rw [hx] at HVdef hfl hfx
    simp only [Nat.zero_add] at HVdef hfl hfx
    have HX := hide hx
    clear hx
    have hx' : (x : Int) ≤ 18446744073709551615 := by omega
    by_cases hn0 : n < 0
    · have HV := hide (by rw [unhide HVdef, if_pos hn0] : rBlob p i 0 n = ([], i, 1))
      go_enter Tryz.func150, Tryz.ntmps150
      go_wp2_with (first
        | (go_at_call 141; go_must (refine (rerr_any b gv p i 0 _ (unhide HR)).mono ?_; rintro r w1 ⟨rfl, hw1⟩; subst w1))
        | (go_at_call 143; go_must (refine (rleft_any b gv p i 0 _ (unhide HR)).mono ?_; rintro r w1 ⟨lv, rfl, ⟨m, hw1⟩, hq, hb⟩; subst w1; rw [unhide Hq] at hq; have HQ := hide hq; have HB := hide hb; obtain ⟨ao, len, cap, rfl, rfl, h2, ⟨h3, h3'⟩, _⟩ := hq; clear hb))
        | (go_at_call 149; go_must (refine (fuv_any _ q _ (by exact (unhide HQ).drewN _)).mono ?_; rintro r w1 ⟨rfl, hw1⟩; subst w1; rw [unhide HX])))
      go_ret
      rw [unhide HV]
      exact ⟨_, rfl, Rd.nil _, ((unhide HR).drewN _).setFault 1, ((Kept.refl [b] w).drewN _).setCell (by simp) _, by simp [blk]⟩
    · obtain ⟨mo, rfl⟩ : ∃ mo : Nat, n = mo := ⟨n.toNat, by omega⟩
      have HV2 := hide (by rw [unhide HVdef, if_neg hn0] : rBlob p i 0 mo = if s = 0 then ([], i, 3) else if (mo : Int) < x then ([], i, 2) else if q.length - s < x then ([], i, 3) else ((q.drop s).take x, i + (s + x), 0))
      have hmo : (0 : Int) ≤ mo := by omega
      have hmo2 : (mo : Int) ≤ 9223372036854775807 := hn.2
      clear HVdef
      by_cases hs0 : s = 0
      · have HV := hide (by rw [unhide HV2, if_pos hs0] : rBlob p i 0 mo = ([], i, 3))
        subst hs0
        go_enter Tryz.func150, Tryz.ntmps150
        go_wp2_with (first
          | (go_at_call 141; go_must (refine (rerr_any b gv p i 0 _ (unhide HR)).mono ?_; rintro r w1 ⟨rfl, hw1⟩; subst w1))
          | (go_at_call 143; go_must (refine (rleft_any b gv p i 0 _ (unhide HR)).mono ?_; rintro r w1 ⟨lv, rfl, ⟨m, hw1⟩, hq, hb⟩; subst w1; rw [unhide Hq] at hq; have HQ := hide hq; have HB := hide hb; obtain ⟨ao, len, cap, rfl, rfl, h2, ⟨h3, h3'⟩, _⟩ := hq; clear hb))
          | (go_at_call 149; go_must (refine (fuv_any _ q _ (by exact (unhide HQ).drewN _)).mono ?_; rintro r w1 ⟨rfl, hw1⟩; subst w1; rw [unhide HX])))
        go_ret
        rw [unhide HV]
        exact ⟨_, rfl, Rd.nil _, ((unhide HR).drewN _).setFault 3, ((Kept.refl [b] w).drewN _).setCell (by simp) _, by simp [blk]⟩
      · have ts : ((s : Int) == 0) = false := by simp; omega
        by_cases hm : (mo : Int) < x
        · have HV := hide (by rw [unhide HV2, if_neg hs0, if_pos hm] : rBlob p i 0 mo = ([], i, 2))
          go_enter Tryz.func150, Tryz.ntmps150
          go_wp2_with (first
            | (go_at_call 141; go_must (refine (rerr_any b gv p i 0 _ (unhide HR)).mono ?_; rintro r w1 ⟨rfl, hw1⟩; subst w1))
            | (go_at_call 143; go_must (refine (rleft_any b gv p i 0 _ (unhide HR)).mono ?_; rintro r w1 ⟨lv, rfl, ⟨m, hw1⟩, hq, hb⟩; subst w1; rw [unhide Hq] at hq; have HQ := hide hq; have HB := hide hb; obtain ⟨ao, len, cap, rfl, rfl, h2, ⟨h3, h3'⟩, _⟩ := hq; clear hb))
            | (go_at_call 149; go_must (refine (fuv_any _ q _ (by exact (unhide HQ).drewN _)).mono ?_; rintro r w1 ⟨rfl, hw1⟩; subst w1; rw [unhide HX])))
          go_ret
          rw [unhide HV]
          exact ⟨_, rfl, Rd.nil _, ((unhide HR).drewN _).setFault 2, ((Kept.refl [b] w).drewN _).setCell (by simp) _, by simp [blk]⟩
        · by_cases hlt : q.length - s < x
          · have HV := hide (by rw [unhide HV2, if_neg hs0, if_neg hm, if_pos hlt] : rBlob p i 0 mo = ([], i, 3))
            have hlt' : (q.length : Int) - s < x := by omega
            go_enter Tryz.func150, Tryz.ntmps150
            go_wp2_with (first
              | (go_at_call 141; go_must (refine (rerr_any b gv p i 0 _ (unhide HR)).mono ?_; rintro r w1 ⟨rfl, hw1⟩; subst w1))
              | (go_at_call 143; go_must (refine (rleft_any b gv p i 0 _ (unhide HR)).mono ?_; rintro r w1 ⟨lv, rfl, ⟨m, hw1⟩, hq, hb⟩; subst w1; rw [unhide Hq] at hq; have HQ := hide hq; have HB := hide hb; obtain ⟨ao, len, cap, rfl, rfl, h2, ⟨h3, h3'⟩, _⟩ := hq; clear hb))
              | (go_at_call 149; go_must (refine (fuv_any _ q _ (by exact (unhide HQ).drewN _)).mono ?_; rintro r w1 ⟨rfl, hw1⟩; subst w1; rw [unhide HX])))
            go_ret
            rw [unhide HV]
            exact ⟨_, rfl, Rd.nil _, ((unhide HR).drewN _).setFault 3, ((Kept.refl [b] w).drewN _).setCell (by simp) _, by simp [blk]⟩
          · have HV := hide (by rw [unhide HV2, if_neg hs0, if_neg hm, if_neg hlt] : rBlob p i 0 mo = ((q.drop s).take x, i + (s + x), 0))
            have hlt' : ¬ (q.length : Int) - s < x := by omega
            have hxq : (s : Int) + x ≤ q.length := by omega
            have hx47 : (x : Int) ≤ 140737488355328 := by omega
            go_enter Tryz.func150, Tryz.ntmps150
            go_wp2_with (first
              | (go_at_call 141; go_must (refine (rerr_any b gv p i 0 _ (unhide HR)).mono ?_; rintro r w1 ⟨rfl, hw1⟩; subst w1))
              | (go_at_call 143; go_must (refine (rleft_any b gv p i 0 _ (unhide HR)).mono ?_; rintro r w1 ⟨lv, rfl, ⟨m, hw1⟩, hq, hb⟩; subst w1; rw [unhide Hq] at hq; have HQ := hide hq; have HB := hide hb; obtain ⟨ao, len, cap, rfl, rfl, h2, ⟨h3, h3'⟩, _⟩ := hq; clear hb))
              | (go_at_call 149; go_must (refine (fuv_any _ q _ (by exact (unhide HQ).drewN _)).mono ?_; rintro r w1 ⟨rfl, hw1⟩; subst w1; rw [unhide HX])))
            all_goals
              have hrd0 := (unhide HQ).kept (((Kept.refl [b] w).drewN m).setCell (p := ⟨b, 1, none⟩) (by simp) (.int .i64 ((i : Int) + ((s : Int) + x)))) (by intro y hy; simp; rintro rfl; exact unhide hne (unhide HB _ hy))
              have HFin := hide (((unhide HR).drewN m).setAt (i + (s + x)) (by omega))
              have HK := hide (((Kept.refl [b] w).drewN m).setCell (p := ⟨b, 1, none⟩) (by simp) (.int .i64 ((i : Int) + ((s : Int) + x))))
              rw [show (((i + (s + x) : Nat) : Int)) = (i : Int) + ((s : Int) + x) from by omega] at HFin
              have hsz : ((w.drewN m).setCell ⟨b, 1, none⟩ (.int .i64 ((i : Int) + ((s : Int) + x)))).heap.size = w.heap.size := by simp [World.setCell, World.drewN]
              obtain ⟨W, hW⟩ : ∃ W, (w.drewN m).setCell ⟨b, 1, none⟩ (.int .i64 ((i : Int) + ((s : Int) + x))) = W := ⟨_, rfl⟩
              rw [hW] at hrd0 HFin HK hsz ⊢
              have hlt2 : ((q.drop s).take x).length = x := by simp; omega
              have hby : ∀ y ∈ (q.drop s).take x, y < 256 := fun y hy => hrd0.byte y (List.mem_of_mem_drop (List.mem_of_mem_take hy))
              refine (cloned_any _ ((q.drop s).take x) _ (by first | exact hrd0.sub0 (by assumption) (by omega) | exact hrd0.sub (by omega))).mono ?_
              rintro r w2 ⟨rfl, hk2, hg2⟩
              have HG2 := hide hg2
              have HK2 := hide hk2
              have HB2 := hide hby
              clear hrd0 hg2 hk2 hW hby
              rw [hlt2, hsz]
              rw [hsz] at HG2
              have Hlt := hide hlt2
              have Hsz := hide hsz
              clear hlt2 hsz
              go_wp2
              go_ret
              rw [unhide HV]
              refine ⟨_, rfl, ?_, (unhide HFin).kept (unhide HK2) (by simp) (by simp), (unhide HK).trans (unhide HK2) (by simp), by simp [blk]⟩
              have hfin := rd_fresh (unhide HG2) (unhide HB2) (by rw [unhide Hlt]; omega)
              rw [unhide Hlt] at hfin; exact hfin
  · have he' : ((e : Int) != 0) = true := by rw [bne_iff_ne]; omega
    have HV := hide (by simp [rBlob, he] : rBlob p i e n = ([], i, e))
    clear he
    go_enter Tryz.func150, Tryz.ntmps150
    go_wp2_with (go_at_call 141; go_must (refine (rerr_any b gv p i e _ (unhide HR)).mono ?_; rintro r w1 ⟨rfl, hw1⟩; subst w1))
    go_ret
    rw [unhide HV]
    exact ⟨_, rfl, Rd.nil _, unhide HR, Kept.refl _ _, by simp [blk]⟩
end Go.Proofs.YtckkalmhekfnhabGreatDoor
