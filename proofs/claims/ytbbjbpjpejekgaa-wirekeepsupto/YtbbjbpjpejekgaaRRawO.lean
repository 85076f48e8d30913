import Derived.Test.YtbbjbpjpejekgaaRRaw
import Derived.Test.YtbbjbpjpejekgaaWNew
namespace Go.Proofs.Ytbbjbpjpejekgaa
open Go.RowKit Go.BigFrame
set_option linter.unusedVariables false
set_option linter.unusedSimpArgs false

set_option maxRecDepth 100000 in
set_option maxHeartbeats 2000000 in
theorem rraw_own (b : Nat) (gv : Value) (p : List Nat) (i e : Nat) (n : Int) (w : World) (h : ReAt w b gv p i e) (hn : -9223372036854775808 ≤ n ∧ n ≤ 9223372036854775807) :
    Calls Try.prog 52 #[.pointer (some ⟨b, 0, none⟩), .int .i64 n] w fun r w' => ∃ rv, r = .returned rv ∧ Rd w' rv (rRaw p i e n).1 ∧ ReAt w' b gv p (rRaw p i e n).2.1 (rRaw p i e n).2.2 ∧ Kept [b] w w' ∧ NewB w w' rv (rRaw p i e n).1 := by
  have HR := hide h
  have c1 := h.c1
  have c2 := h.c2
  have f1 := h.free 1
  have f2 := h.free 2
  have hl : p.length ≤ 140737488355328 := h.rd.len
  have hle := h.le
  have hne := hide h.ne
  have hblt := h.lt
  clear h
  by_cases he : e = 0
  · subst he
    obtain ⟨q, hq⟩ : ∃ q, p.drop i = q := ⟨_, rfl⟩
    have hql : q.length = p.length - i := by rw [← hq]; simp
    have Hq := hide hq
    have Hql := hide hql
    have hq47 : q.length ≤ 140737488355328 := by omega
    clear hq hql
    by_cases hn0 : n < 0
    · have HV := hide (by simp [rRaw, hn0] : rRaw p i 0 n = ([], i, 1))
      go_enter Try.func52, Try.ntmps52
      go_wp2_with (first
        | (go_at_call 15; go_must (refine (rerr_any b gv p i 0 _ (unhide HR)).mono ?_; rintro r w1 ⟨rfl, hw1⟩; subst w1))
        | (go_at_call 33; go_must (refine (rleft_any b gv p i 0 _ (unhide HR)).mono ?_; rintro r w1 ⟨lv, rfl, ⟨m, hw1⟩, hq, hb⟩; subst w1; rw [unhide Hq] at hq; obtain ⟨ao, len, cap, rfl, rfl, _⟩ := hq; clear hb)))
      go_ret
      rw [unhide HV]
      exact ⟨_, rfl, Rd.nil _, ((unhide HR).drewN _).setFault 1, ((Kept.refl [b] w).drewN _).setCell (by simp) _, NewB.nil _ _⟩
    · obtain ⟨k, rfl⟩ : ∃ k : Nat, n = k := ⟨n.toNat, by omega⟩
      by_cases hs : q.length < k
      · have HV := hide (by have h1 := unhide Hql; have h2 : (p.length : Int) - i < k := (by omega); simp [rRaw, h2] : rRaw p i 0 k = ([], i, 3))
        have hs' : (q.length : Int) < k := by omega
        go_enter Try.func52, Try.ntmps52
        go_wp2_with (first
          | (go_at_call 15; go_must (refine (rerr_any b gv p i 0 _ (unhide HR)).mono ?_; rintro r w1 ⟨rfl, hw1⟩; subst w1))
          | (go_at_call 33; go_must (refine (rleft_any b gv p i 0 _ (unhide HR)).mono ?_; rintro r w1 ⟨lv, rfl, ⟨m, hw1⟩, hq, hb⟩; subst w1; rw [unhide Hq] at hq; obtain ⟨ao, len, cap, rfl, rfl, _⟩ := hq; clear hb)))
        go_ret
        rw [unhide HV]
        exact ⟨_, rfl, Rd.nil _, ((unhide HR).drewN _).setFault 3, ((Kept.refl [b] w).drewN _).setCell (by simp) _, NewB.nil _ _⟩
      · have HV := hide (by have h1 := unhide Hql; have h2 : ¬ (p.length : Int) - i < k := (by omega); simp [rRaw, h2, unhide Hq] : rRaw p i 0 k = (q.take k, i + k, 0))
        have hs' : (k : Int) ≤ q.length := by omega
        have hin : i + k ≤ p.length := by have := unhide Hql; omega
        go_enter Try.func52, Try.ntmps52
        go_wp2_with (first
          | (go_at_call 15; go_must (refine (rerr_any b gv p i 0 _ (unhide HR)).mono ?_; rintro r w1 ⟨rfl, hw1⟩; subst w1))
          | (go_at_call 33; go_must (refine (rleft_any b gv p i 0 _ (unhide HR)).mono ?_; rintro r w1 ⟨lv, rfl, ⟨m, hw1⟩, hq, hb⟩; subst w1; rw [unhide Hq] at hq; have HQ := hide hq; have HB := hide hb; obtain ⟨ao, len, cap, rfl, rfl, h2, ⟨h3, h3'⟩, _⟩ := hq; clear hb)))
        have hrd : Rd ((w.drewN m).setCell ⟨b, 1, none⟩ (.int .i64 ((i : Int) + k))) (.slice ao k cap) (q.take k) :=
          ((unhide HQ).kept (((Kept.refl [b] w).drewN m).setCell (by simp) _) (by intro x hx; simp; rintro rfl; exact unhide hne (unhide HB _ hx))).take (by omega)
        have HFin := hide (((unhide HR).drewN m).setAt (i + k) (by omega))
        have HK := hide (((Kept.refl [b] w).drewN m).setCell (p := ⟨b, 1, none⟩) (by simp) (.int .i64 ((i : Int) + k)))
        rw [show (((i + k : Nat) : Int)) = (i : Int) + k from by omega] at HFin
        have hsz : ((w.drewN m).setCell ⟨b, 1, none⟩ (.int .i64 ((i : Int) + k))).heap.size = w.heap.size := by simp [World.setCell, World.drewN]
        obtain ⟨W, hW⟩ : ∃ W, (w.drewN m).setCell ⟨b, 1, none⟩ (.int .i64 ((i : Int) + k)) = W := ⟨_, rfl⟩
        rw [hW] at hrd HFin HK hsz ⊢
        have hlt' : (q.take k).length = k := by simp; omega
        refine (cloned_any _ (q.take k) _ hrd).mono ?_
        rintro r w2 ⟨rfl, hk2, hg2⟩
        have HG2 := hide hg2
        have HK2 := hide hk2
        have HB2 := hide hrd.byte
        clear hrd hg2 hk2 hW
        rw [hlt', hsz]
        rw [hsz] at HG2
        have Hlt := hide hlt'
        have Hsz := hide hsz
        clear hlt' hsz
        go_wp2
        go_ret
        rw [unhide HV]
        have h8 := rd_fresh (unhide HG2) (unhide HB2) (by rw [unhide Hlt]; omega)
        have h9 := NewB.mk (w := w) (Nat.le_refl _) (unhide HG2) (unhide HB2) (by rw [unhide Hlt]; omega)
        rw [unhide Hlt] at h8 h9
        exact ⟨_, rfl, h8, (unhide HFin).kept (unhide HK2) (by simp) (by simp), (unhide HK).trans (unhide HK2) (by simp), h9⟩
  · have he' : ((e : Int) != 0) = true := by rw [bne_iff_ne]; omega
    have HV := hide (by simp [rRaw, he] : rRaw p i e n = ([], i, e))
    clear he
    go_enter Try.func52, Try.ntmps52
    go_wp2_with (go_at_call 15; go_must (refine (rerr_any b gv p i e _ (unhide HR)).mono ?_; rintro r w1 ⟨rfl, hw1⟩; subst w1))
    go_ret
    rw [unhide HV]
    exact ⟨_, rfl, Rd.nil _, unhide HR, Kept.refl _ _, NewB.nil _ _⟩
end Go.Proofs.Ytbbjbpjpejekgaa
