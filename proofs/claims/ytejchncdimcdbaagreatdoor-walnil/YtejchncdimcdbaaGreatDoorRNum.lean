import Derived.Test.YtejchncdimcdbaaGreatDoorReMore
namespace Go.Proofs.YtejchncdimcdbaaGreatDoor
open Go.RowKit
set_option linter.unusedVariables false
set_option linter.unusedSimpArgs false

set_option maxRecDepth 100000 in
set_option maxHeartbeats 1000000 in
theorem rnum_any (b : Nat) (gv : Value) (p : List Nat) (i e n : Nat) (w : World) (h : ReAt w b gv p i e) (hn : n ≤ 8) :
    Calls Tryz.prog 242 #[.pointer (some ⟨b, 0, none⟩), .int .i64 n] w fun r w' => r = .returned (.int .u64 (rNum p i e n).1) ∧ ReAt w' b gv p (rNum p i e n).2.1 (rNum p i e n).2.2 ∧ Kept [b] w w' := by
  have HR := hide h
  have c1 := h.c1
  have c2 := h.c2
  have f1 := h.free 1
  have f2 := h.free 2
  have hl : p.length ≤ 140737488355328 := by obtain ⟨_, _, _, _, rfl, _, ⟨_, h3⟩, _⟩ := h.rd; exact h3
  have hle := h.le
  have hne := hide h.ne
  clear h
  by_cases he : e = 0
  · subst he
    obtain ⟨q, hq⟩ : ∃ q, p.drop i = q := ⟨_, rfl⟩
    have hql : q.length = p.length - i := by rw [← hq]; simp
    have Hq := hide hq
    have Hql := hide hql
    have hq47 : q.length ≤ 140737488355328 := by omega
    clear hq hql
    by_cases hs : q.length < n
    · have HV := hide (by rw [unhide Hql] at hs; simp [rNum, hs] : rNum p i 0 n = (0, i, 3))
      have hs' : (q.length : Int) < n := by omega
      go_enter Tryz.func242, Tryz.ntmps242
      go_wp2_with (first
        | (go_at_call 215; go_must (refine (rerr_any b gv p i 0 _ (unhide HR)).mono ?_; rintro r w1 ⟨rfl, hw1⟩; subst w1))
        | (go_at_call 217; go_must (refine (rleft_any b gv p i 0 _ (unhide HR)).mono ?_; rintro r w1 ⟨lv, rfl, ⟨m, hw1⟩, hq, hb⟩; subst w1; rw [unhide Hq] at hq; obtain ⟨ao, len, cap, rfl, rfl, _⟩ := hq; clear hb)))
      go_ret
      rw [unhide HV]
      exact ⟨rfl, ((unhide HR).drewN _).setFault 3, ((Kept.refl [b] w).drewN _).setCell (by simp) _⟩
    · have HV := hide (by rw [unhide Hql] at hs; simp [rNum, hs, unhide Hq] : rNum p i 0 n = (beL (q.take n), i + n, 0))
      have hs' : (n : Int) ≤ q.length := by omega
      have hin : i + n ≤ p.length := by have := unhide Hql; omega
      go_enter Tryz.func242, Tryz.ntmps242
      go_wp2_with (first
        | (go_at_call 215; go_must (refine (rerr_any b gv p i 0 _ (unhide HR)).mono ?_; rintro r w1 ⟨rfl, hw1⟩; subst w1))
        | (go_at_call 217; go_must (refine (rleft_any b gv p i 0 _ (unhide HR)).mono ?_; rintro r w1 ⟨lv, rfl, ⟨m, hw1⟩, hq, hb⟩; subst w1; rw [unhide Hq] at hq; have HQ := hide hq; have HB := hide hb; obtain ⟨ao, len, cap, rfl, rfl, h2, ⟨h3, h3'⟩, _⟩ := hq; clear hb)))
      have hrd : Rd ((w.drewN m).setCell ⟨b, 1, none⟩ (.int .i64 ((i : Int) + n))) (.slice ao q.length cap) q :=
        (unhide HQ).kept (((Kept.refl [b] w).drewN m).setCell (by simp) _) (by intro x hx; simp; rintro rfl; exact unhide hne (unhide HB _ hx))
      have HFin := hide (((unhide HR).drewN m).setAt (i + n) (by omega))
      have HK := hide (((Kept.refl [b] w).drewN m).setCell (p := ⟨b, 1, none⟩) (by simp) (.int .i64 ((i : Int) + n)))
      rw [show (((i + n : Nat) : Int)) = (i : Int) + n from by omega] at HFin
      obtain ⟨W, hW⟩ : ∃ W, (w.drewN m).setCell ⟨b, 1, none⟩ (.int .i64 ((i : Int) + n)) = W := ⟨_, rfl⟩
      rw [hW] at hrd HFin HK ⊢
      obtain ⟨_, _, _, he, _, _, _, _, h5, h6⟩ := hrd
      cases he
      have H5 := hide h5
      have H6 := hide h6
      clear h5 h6 hW HQ HB hne HR
      go_loopw [6, 8, 33] (fun t6 t8 t33 wr => ∃ k : Nat, k ≤ n ∧ t33 = .int .i64 k ∧ t6 = .int .u64 (beL (q.take k)) ∧ wr = W) (fun _ _ i _ => n - (intOf i).toNat)
      case atStart => exact ⟨0, Nat.zero_le _, rfl, by simp [beL], rfl⟩
      case round =>
        obtain ⟨k, hk, rfl, rfl, rfl⟩ := hrel
        by_cases hlt : k < n
        · obtain ⟨bb, oo, rfl, hc⟩ := unhide H6 (by omega)
          have hck := hc k (by omega)
          have hkq : k < q.length := by omega
          have hcb : q.getD k 0 < 256 := unhide H5 _ (by rw [List.getD_eq_getElem?_getD, List.getElem?_eq_getElem hkq]; exact List.getElem_mem hkq)
          have hsn := beL_snoc q k hkq
          have hval := or_byte (beL (q.take k)) (q.getD k 0) hcb
          rw [← hsn] at hval
          obtain ⟨c, hcc⟩ : ∃ c, q.getD k 0 = c := ⟨_, rfl⟩
          have ha1 := beL_lt (q.take k)
          obtain ⟨a, ha⟩ : ∃ a, beL (q.take k) = a := ⟨_, rfl⟩
          obtain ⟨a', ha'⟩ : ∃ a', beL (q.take (k + 1)) = a' := ⟨_, rfl⟩
          rw [hcc] at hck hcb hval
          rw [ha] at hval ha1 ⊢
          rw [ha'] at hval
          have Ha' := hide ha'
          have hlt' : (k : Int) < n := by omega
          clear hc hcc ha ha' hsn
          go_wp2
          go_roundw
          case rel => exact ⟨k + 1, by omega, by go_num, by rw [unhide Ha'], trivial⟩
          case measure => simp [intOf]; omega
        · have hkn : k = n := by omega
          subst hkn
          go_wp2
          go_ret
          rw [unhide HV]
          exact ⟨rfl, unhide HFin, unhide HK⟩
  · have he' : ((e : Int) != 0) = true := by rw [bne_iff_ne]; omega
    have HV := hide (by simp [rNum, he] : rNum p i e n = (0, i, e))
    clear he
    go_enter Tryz.func242, Tryz.ntmps242
    go_wp2_with (go_at_call 215; go_must (refine (rerr_any b gv p i e _ (unhide HR)).mono ?_; rintro r w1 ⟨rfl, hw1⟩; subst w1))
    go_ret
    rw [unhide HV]
    exact ⟨rfl, unhide HR, Kept.refl _ _⟩
theorem ru_lt (p : List Nat) (i e n : Nat) : (rNum p i e n).1 < 18446744073709551616 := by
  unfold rNum; split
  · simp
  · split
    · simp
    · exact beL_lt _
set_option maxRecDepth 100000 in
set_option maxHeartbeats 1000000 in
theorem ru8_any (b : Nat) (gv : Value) (p : List Nat) (i e : Nat) (w : World) (h : ReAt w b gv p i e) :
    Calls Tryz.prog 209 #[.pointer (some ⟨b, 0, none⟩)] w fun r w' => r = .returned (.int .u8 ((rNum p i e 1).1 % 256 : Nat)) ∧ ReAt w' b gv p (rNum p i e 1).2.1 (rNum p i e 1).2.2 ∧ Kept [b] w w' := by
  have HR := hide h
  have hlt := ru_lt p i e 1
  obtain ⟨x, hx⟩ : ∃ x, (rNum p i e 1).1 = x := ⟨_, rfl⟩
  rw [hx] at hlt ⊢
  have Hx := hide hx
  clear h hx
  go_enter Tryz.func209, Tryz.ntmps209
  go_wp2_with (go_at_call 242; go_must (refine (rnum_any b gv p i e 1 _ (unhide HR) (by omega)).mono ?_; rintro r w1 ⟨rfl, h1, h2⟩; rw [unhide Hx]; have H1 := hide h1; have H2 := hide h2; clear h1 h2))
  go_ret
  exact ⟨by simp, unhide H1, unhide H2⟩
set_option maxRecDepth 100000 in
theorem newReader_any (v : Value) (p : List Nat) (w : World) (h : Rd w v p) :
    Calls Tryz.prog 164 #[v] w fun r w' => ∃ b gv, r = .returned (.pointer (some ⟨b, 0, none⟩)) ∧ w.heap.size ≤ b ∧ ReAt w' b gv p 0 0 ∧ (∀ x ∈ blk gv, w.heap.size ≤ x ∧ x < w'.heap.size) ∧ Kept [] w w' := by
  have HR := hide h
  have hp : ∀ x ∈ p, x < 256 := by obtain ⟨_, _, _, _, _, _, _, _, h5, _⟩ := h; exact h5
  have hl : p.length ≤ 140737488355328 := by obtain ⟨_, _, _, _, rfl, _, ⟨_, h3⟩, _⟩ := h; exact h3
  clear h
  go_enter Tryz.func164, Tryz.ntmps164
  go_wp2_with (go_at_call 191; go_must (refine (cloned_any v p _ (unhide HR)).mono ?_; rintro r w1 ⟨rfl, h1, h2⟩; have H1 := hide h1; have H2 := hide h2; clear h1 h2))
  go_ret
  have hlt := lt_of_block (unhide H2)
  refine ⟨w1.heap.size, _, rfl, by omega, ⟨heap_alloc_new w1 _, ?_, Nat.zero_le _, ?_⟩, ?_, (unhide H1).alloc _⟩
  · exact (rd_fresh (unhide H2) hp hl).kept ((Kept.refl [] w1).alloc _) (by simp)
  · simp [blk]; omega
  · simp [blk]; omega
end Go.Proofs.YtejchncdimcdbaaGreatDoor
