import Derived.Test.YtkcanelboloihaaBunA
namespace Go.Proofs.Ytkcanelboloihaa
open Go.RowKit
set_option linter.unusedVariables false
set_option linter.unusedSimpArgs false

/-- A Reader at the block b: over the bytes p, at the place i, with the fault e. -/
structure ReAt (w : World) (b : Nat) (gv : Value) (p : List Nat) (i e : Nat) : Prop where
  at_ : w.heap[b]? = some (.cells #[gv, .int .i64 i, .int .i64 e] 157 (0, 0))
  rd : Rd w gv p
  le : i ≤ p.length
  ne : b ∉ blk gv

theorem ReAt.c0 {w : World} {b : Nat} {gv : Value} {p : List Nat} {i e : Nat} (h : ReAt w b gv p i e) : w.cell? ⟨b, 0, none⟩ = some gv := by simp [World.cell?, h.at_]
theorem ReAt.c1 {w : World} {b : Nat} {gv : Value} {p : List Nat} {i e : Nat} (h : ReAt w b gv p i e) : w.cell? ⟨b, 1, none⟩ = some (.int .i64 i) := by simp [World.cell?, h.at_]
theorem ReAt.c2 {w : World} {b : Nat} {gv : Value} {p : List Nat} {i e : Nat} (h : ReAt w b gv p i e) : w.cell? ⟨b, 2, none⟩ = some (.int .i64 e) := by simp [World.cell?, h.at_]
theorem ReAt.free {w : World} {b : Nat} {gv : Value} {p : List Nat} {i e : Nat} (h : ReAt w b gv p i e) (o : Nat) : w.frozen? ⟨b, o, none⟩ = false := by simp [World.frozen?, h.at_]
theorem ReAt.lt {w : World} {b : Nat} {gv : Value} {p : List Nat} {i e : Nat} (h : ReAt w b gv p i e) : b < w.heap.size := lt_of_block h.at_

theorem ReAt.kept {L : List Nat} {w w' : World} {b : Nat} {gv : Value} {p : List Nat} {i e : Nat} (h : ReAt w b gv p i e) (k : Kept L w w') (hb : b ∉ L) (hv : ∀ x ∈ blk gv, x ∉ L) : ReAt w' b gv p i e :=
  ⟨k.heap h.at_ hb, h.rd.kept k hv, h.le, h.ne⟩

set_option maxRecDepth 100000 in
theorem rerr_any (b : Nat) (gv : Value) (p : List Nat) (i e : Nat) (w : World) (h : ReAt w b gv p i e) :
    Calls Try.prog 100 #[.pointer (some ⟨b, 0, none⟩)] w fun r w' => r = .returned (.int .i64 e) ∧ w' = w := by
  have c2 := h.c2
  clear h
  go_enter Try.func100, Try.ntmps100
  go_wp2
  go_ret
  exact ⟨rfl, rfl⟩

theorem addr_block (x : Addr) (i : Nat) : (x.add i).block = x.block := by unfold Addr.add; split <;> rfl

/-- A cut p[i:] reads as the rest. -/
theorem Rd.drop0 {w : World} {ao : Option Addr} {cap i : Nat} {p : List Nat} (h : Rd w (.slice ao p.length cap) p) (hc : cap = i) (hi : i ≤ p.length) : Rd w (.slice ao (p.length - i) 0) (p.drop i) := by
  obtain ⟨ao', len', cap', he, _, h2, ⟨h3, h3'⟩, h4, h5, h6⟩ := h
  cases he
  have e : p.length = i := by omega
  have ed : p.drop i = [] := List.drop_eq_nil_of_le (by omega)
  rw [ed]
  exact ⟨_, _, _, rfl, by simp; omega, by omega, ⟨by omega, by omega⟩, fun _ => rfl, by simp, fun hp => by omega⟩
theorem Rd.drop {w : World} {ao : Option Addr} {cap i : Nat} {p : List Nat} (h : Rd w (.slice ao p.length cap) p) (hi : i ≤ p.length) :
    Rd w (.slice (Option.map (fun x => x.add i) ao) (p.length - i) (cap - i)) (p.drop i) := by
  obtain ⟨ao', len', cap', he, _, h2, ⟨h3, h3'⟩, h4, h5, h6⟩ := h
  cases he
  refine ⟨_, _, _, rfl, by simp, by omega, ⟨by omega, by omega⟩, fun h => ?_, fun x hx => h5 x (List.mem_of_mem_drop hx), fun hp => ?_⟩
  · have := h4 (by simpa using h); omega
  · obtain ⟨b, off, rfl, hc⟩ := h6 (by omega)
    refine ⟨b, off + i, by simp [Addr.add_mid], fun j hj => ?_⟩
    have := hc (i + j) (by omega)
    rw [Nat.add_assoc, this]
    simp [List.getD_eq_getElem?_getD]
theorem blk_drop {ao : Option Addr} {n c n' c' i : Nat} : ∀ x ∈ blk (.slice (Option.map (fun x => x.add i) ao) n' c'), x ∈ blk (.slice ao n c) := by
  cases ao with
  | none => simp [blk]
  | some a => simp [blk, addr_block]

set_option maxRecDepth 100000 in
theorem rleft_any (b : Nat) (gv : Value) (p : List Nat) (i e : Nat) (w : World) (h : ReAt w b gv p i e) :
    Calls Try.prog 101 #[.pointer (some ⟨b, 0, none⟩)] w fun r w' => ∃ lv, r = .returned lv ∧ (∃ n, w' = w.drewN n) ∧ Rd w lv (p.drop i) ∧ ∀ x ∈ blk lv, x ∈ blk gv := by
  have c0 := h.c0
  have c1 := h.c1
  obtain ⟨_, hrd, hle, _⟩ := h
  have HR := hide hrd
  obtain ⟨ao, len, cap, rfl, rfl, h2, ⟨h3, h3'⟩, h4, h5, h6⟩ := hrd
  have i0 : (0 : Int) ≤ (i : Int) := by omega
  have i1 : (i : Int) ≤ (p.length : Int) := by omega
  have i2 : (p.length : Int) ≤ (cap : Int) := by omega
  clear h4 h5 h6
  go_enter Try.func101, Try.ntmps101
  go_wp2_with fail
  go_quiet (fail)
  all_goals go_wp2
  all_goals go_ret
  · exact ⟨_, rfl, ⟨_, rfl⟩, Rd.drop0 (unhide HR) (by assumption) (by omega), fun x hx => by cases ao <;> exact hx⟩
  · exact ⟨_, rfl, ⟨_, rfl⟩, Rd.drop (unhide HR) (by omega), blk_drop⟩

/-- What Done answers. -/
def doneE (p : List Nat) (i e : Nat) : Nat := if e = 0 ∧ i < p.length then 3 else e

set_option maxRecDepth 100000 in
theorem rdone_any (b : Nat) (gv : Value) (p : List Nat) (i e : Nat) (w : World) (h : ReAt w b gv p i e) :
    Calls Try.prog 64 #[.pointer (some ⟨b, 0, none⟩)] w fun r w' => r = .returned (.int .i64 (doneE p i e)) ∧ ∃ n, w' = w.drewN n := by
  have HR := hide h
  clear h
  by_cases he : e = 0
  · subst he
    by_cases hi : i < p.length
    · have hpos : (0 : Int) < (p.drop i).length := by simp; omega
      go_enter Try.func64, Try.ntmps64
      go_wp2_with (first | (go_at_call 100; go_must (refine (rerr_any b gv p i 0 _ (unhide HR)).mono ?_; rintro r w1 ⟨rfl, rfl⟩)) | (go_at_call 101; go_must (refine (rleft_any b gv p i 0 _ (unhide HR)).mono ?_; rintro r w1 ⟨lv, rfl, ⟨n, rfl⟩, ⟨ao, len, cap, rfl, rfl, _⟩, hb⟩; clear hb)))
      go_ret
      exact ⟨by simp [doneE, hi], _, rfl⟩
    · have hpos : ¬ (0 : Int) < (p.drop i).length := by simp; omega
      go_enter Try.func64, Try.ntmps64
      go_wp2_with (first | (go_at_call 100; go_must (refine (rerr_any b gv p i 0 _ (unhide HR)).mono ?_; rintro r w1 ⟨rfl, rfl⟩)) | (go_at_call 101; go_must (refine (rleft_any b gv p i 0 _ (unhide HR)).mono ?_; rintro r w1 ⟨lv, rfl, ⟨n, rfl⟩, ⟨ao, len, cap, rfl, rfl, _⟩, hb⟩; clear hb)))
      go_ret
      exact ⟨by simp [doneE, hi], _, rfl⟩
  · have he' : ((e : Int) != 0) = true := by rw [bne_iff_ne]; omega
    have Hn := hide he
    clear he
    go_enter Try.func64, Try.ntmps64
    go_wp2_with (go_at_call 100; go_must (refine (rerr_any b gv p i e _ (unhide HR)).mono ?_; rintro r w1 ⟨rfl, rfl⟩))
    go_ret
    exact ⟨by simp [doneE, unhide Hn], 0, rfl⟩
end Go.Proofs.Ytkcanelboloihaa
namespace Go.Proofs.Ytkcanelboloihaa
open Go.RowKit
set_option linter.unusedVariables false
set_option linter.unusedSimpArgs false

/-- The number in groups of seven bits with which a list begins, and how many bytes it has (0: none). -/
def fuv : List Nat → Nat → Nat → Nat × Nat
  | [], _, _ => (0, 0)
  | c :: r, i, a => if i = 9 ∧ c ≠ 1 then (0, 0) else if 128 ≤ c then fuv r (i + 1) (a + c % 128 * 128 ^ i) else if c = 0 ∧ 0 < i then (0, 0) else (a + c % 128 * 128 ^ i, i + 1)

theorem drop_cons {p : List Nat} {k : Nat} (h : k < p.length) : p.drop k = p.getD k 0 :: p.drop (k + 1) := by
  rw [List.drop_eq_getElem_cons h, List.getD_eq_getElem?_getD, List.getElem?_eq_getElem h]; rfl

/-- The group's bits over those that were there. -/
theorem group_lt (k c : Nat) (hk : k ≤ 9) (h9 : k = 9 → c = 1) : c % 128 * 128 ^ k < 18446744073709551616 := by
  rcases Nat.lt_or_ge k 9 with h | h
  · have h1 : 128 ^ k ≤ 128 ^ 8 := Nat.pow_le_pow_right (by omega) (by omega)
    have h2 : c % 128 < 128 := Nat.mod_lt _ (by omega)
    calc c % 128 * 128 ^ k ≤ 127 * 128 ^ 8 := Nat.mul_le_mul (by omega) h1
      _ < 18446744073709551616 := by decide
  · have : k = 9 := by omega
    subst this; rw [h9 rfl]; decide
theorem group_or (k c a : Nat) (hk : k ≤ 9) (h9 : k = 9 → c = 1) (ha : a < 128 ^ k) : bits .or .u64 (a : Int) ((c % 128 * 128 ^ k : Nat) : Int) = ((a + c % 128 * 128 ^ k : Nat) : Int) := by
  have h1 := group_lt k c hk h9
  have h2 : 128 ^ k ≤ 128 ^ 9 := Nat.pow_le_pow_right (by omega) hk
  rw [u64_or_nat a _ (by have h3 : (128 : Nat) ^ 9 = 9223372036854775808 := (by decide); omega) h1, Nat.or_comm, nat_join (7 * k) _ a (by rw [Nat.pow_mul]; exact Nat.mul_mod_left _ _) (by rw [Nat.pow_mul]; exact ha), Nat.add_comm]
theorem group_val (k c a : Nat) (hk : k ≤ 9) (h9 : k = 9 → c = 1) (ha : a < 128 ^ k) : bits .or .u64 (a : Int) (IntKind.u64.wrap ((c : Int) % 128 * 2 ^ (7 * k))) = ((a + c % 128 * 128 ^ k : Nat) : Int) := by
  have e2 : ((c : Int) % 128) * 2 ^ (7 * k) = ((c % 128 * 128 ^ k : Nat) : Int) := by rw [Int.natCast_mul, Int.pow_mul]; simp
  have h1 := group_lt k c hk h9
  rw [IntKind.wrap_u64, e2, ← group_or k c a hk h9 ha]
  congr 1; omega
theorem group_next (k c a : Nat) (ha : a < 128 ^ k) : a + c % 128 * 128 ^ k < 128 ^ (k + 1) := by
  have h2 : c % 128 < 128 := Nat.mod_lt _ (by omega)
  have h3 : c % 128 * 128 ^ k ≤ 127 * 128 ^ k := Nat.mul_le_mul (by omega) (Nat.le_refl _)
  rw [Nat.pow_succ]; omega

set_option maxRecDepth 100000 in
set_option maxHeartbeats 1000000 in
theorem fuv_any (v : Value) (p : List Nat) (w : World) (hv : Rd w v p) :
    Calls Try.prog 126 #[v] w fun r w' => r = .returned (.tuple #[.int .u64 (fuv p 0 0).1, .int .i64 (fuv p 0 0).2]) ∧ w' = w := by
  obtain ⟨ao, len, cap, rfl, rfl, h2, ⟨h3, h3'⟩, h4, h5, h6⟩ := hv
  have H6 := hide h6
  clear h6 h4
  go_enter Try.func126, Try.ntmps126
  go_wp2_with fail
  go_loopw [4, 5, 6, 9] (fun t4 t5 t6 t9 wr => ∃ k a : Nat, k ≤ p.length ∧ k ≤ 9 ∧ t9 = .int .i64 k ∧ t4 = .int .u64 a ∧ Hid (a < 128 ^ k) ∧ Hid (fuv (p.drop k) k a = fuv p 0 0) ∧ wr = w) (fun _ _ _ i _ => p.length - (intOf i).toNat)
  case atStart => exact ⟨0, 0, Nat.zero_le _, Nat.zero_le _, rfl, rfl, hide (by decide), rfl, rfl⟩
  case round =>
    obtain ⟨k, a, hk, hk9, rfl, rfl, Ha, Hf, rfl⟩ := hrel
    by_cases hlt : k < p.length
    · obtain ⟨b, o, rfl, hc⟩ := unhide H6 (by omega)
      have hck := hc k hlt
      have hcb : p.getD k 0 < 256 := h5 _ (by rw [List.getD_eq_getElem?_getD, List.getElem?_eq_getElem hlt]; exact List.getElem_mem hlt)
      have hfk := unhide Hf
      rw [drop_cons hlt, fuv] at hfk
      obtain ⟨c, hcc⟩ : ∃ c, c = p.getD k 0 := ⟨_, rfl⟩
      rw [← hcc] at hck hfk hcb
      clear hc hcc h5
      by_cases h9 : k = 9 ∧ c ≠ 1
      · rw [if_pos h9] at hfk
        obtain ⟨rfl, hc1⟩ := h9
        have t1 : ((c : Int) != 1) = true := by rw [bne_iff_ne]; omega
        have HF := hide hfk
        clear hfk hc1
        go_wp2
        go_ret2
        exact ⟨by rw [← unhide HF]; rfl, rfl⟩
      · have h9' : k = 9 → c = 1 := by intro h; omega
        rw [if_neg h9] at hfk
        have hval := group_val k c a hk9 h9' (unhide Ha)
        have Hn := hide (group_next k c a (unhide Ha))
        obtain ⟨a', ha'⟩ : ∃ a', a' = a + c % 128 * 128 ^ k := ⟨_, rfl⟩
        rw [← ha'] at hval Hn hfk
        by_cases hbig : 128 ≤ c
        · rw [if_pos hbig] at hfk
          have HF := hide hfk
          have hk8 : k ≤ 8 := by omega
          have t9 : ((k : Int) == 9) = false := by simp; omega
          have tb : (128 : Int) ≤ c := by omega
          clear ha' hfk h9 h9'
          go_wp2
          go_roundw
          case rel => exact ⟨k + 1, a', by omega, by omega, by go_num, rfl, Hn, HF, trivial⟩
          case measure => simp [intOf]; omega
        · rw [if_neg hbig] at hfk
          have tb : (c : Int) < 128 := by omega
          by_cases hz : c = 0 ∧ 0 < k
          · rw [if_pos hz] at hfk
            have HF := hide hfk
            obtain ⟨rfl, hk0⟩ := hz
            have hk8 : k ≤ 8 := by omega
            have t9 : ((k : Int) == 9) = false := by simp; omega
            have tk : (0 : Int) < k := by omega
            clear ha' hfk h9 h9'
            go_wp2
            go_ret2
            exact ⟨by rw [← unhide HF]; rfl, rfl⟩
          · rw [if_neg hz] at hfk
            have HF := hide hfk
            clear ha' hfk
            by_cases hc0 : c = 0
            · have t9 : ((k : Int) == 9) = false := by simp; omega
              have t0 : ((c : Int) == 0) = true := by simp; omega
              have tk : ¬ (0 : Int) < k := by omega
              clear h9 h9' hz hc0
              go_wp2
              go_ret2
              exact ⟨by rw [← unhide HF]; simp, rfl⟩
            · have t0 : ((c : Int) == 0) = false := by simp; omega
              by_cases hk9' : k = 9
              · have t9 : ((k : Int) == 9) = true := by simp; omega
                have t1 : ((c : Int) != 1) = false := by have := h9' hk9'; simp; omega
                clear h9 h9' hz hk9'
                go_wp2
                go_ret2
                exact ⟨by rw [← unhide HF]; simp, rfl⟩
              · have t9 : ((k : Int) == 9) = false := by simp; omega
                clear h9 h9' hz
                go_wp2
                go_ret2
                exact ⟨by rw [← unhide HF]; simp, rfl⟩
    · have e : p.drop k = [] := List.drop_eq_nil_of_le (by omega)
      have HF := hide (by rw [← unhide Hf, e, fuv] : fuv p 0 0 = (0, 0))
      clear e
      go_wp2
      go_ret2
      exact ⟨by rw [unhide HF]; rfl, rfl⟩
end Go.Proofs.Ytkcanelboloihaa
namespace Go.Proofs.Ytkcanelboloihaa
open Go.RowKit
set_option linter.unusedVariables false
set_option linter.unusedSimpArgs false

theorem fuv_le (q : List Nat) : ∀ k a, (fuv q k a).2 ≤ k + q.length := by
  induction q with
  | nil => intro k a; simp [fuv]
  | cons c r ih =>
    intro k a
    rw [fuv]
    split
    · simp
    · split
      · have := ih (k + 1) (a + c % 128 * 128 ^ k); simp only [List.length_cons]; omega
      · split
        · simp
        · simp only [List.length_cons]; omega

theorem Rd.drewN {w : World} {v : Value} {p : List Nat} (h : Rd w v p) (n : Nat) : Rd (w.drewN n) v p := h
theorem ReAt.drewN {w : World} {b : Nat} {gv : Value} {p : List Nat} {i e : Nat} (h : ReAt w b gv p i e) (n : Nat) : ReAt (w.drewN n) b gv p i e := ⟨h.at_, h.rd, h.le, h.ne⟩
theorem ReAt.setAt {w : World} {b : Nat} {gv : Value} {p : List Nat} {i e : Nat} (h : ReAt w b gv p i e) (j : Nat) (hj : j ≤ p.length) : ReAt (w.setCell ⟨b, 1, none⟩ (.int .i64 j)) b gv p j e := by
  refine ⟨?_, h.rd.kept ((Kept.refl [b] w).setCell (by simp) _) (by intro x hx; simp; rintro rfl; exact h.ne hx), hj, h.ne⟩
  rw [heap_setCell_same w b 1 _ 157 _ h.at_]; rfl
theorem ReAt.setFault {w : World} {b : Nat} {gv : Value} {p : List Nat} {i e : Nat} (h : ReAt w b gv p i e) (f : Nat) : ReAt (w.setCell ⟨b, 2, none⟩ (.int .i64 f)) b gv p i f := by
  refine ⟨?_, h.rd.kept ((Kept.refl [b] w).setCell (by simp) _) (by intro x hx; simp; rintro rfl; exact h.ne hx), h.le, h.ne⟩
  rw [heap_setCell_same w b 2 _ 157 _ h.at_]; rfl

/-- What Uvar answers; the place and the fault behind it. -/
def rUvar (p : List Nat) (i e : Nat) : Nat × Nat × Nat :=
  if e ≠ 0 then (0, i, e) else if (fuv (p.drop i) 0 0).2 = 0 then (0, i, 3) else ((fuv (p.drop i) 0 0).1, i + (fuv (p.drop i) 0 0).2, 0)

set_option maxRecDepth 100000 in
set_option maxHeartbeats 1000000 in
theorem ruvar_any (b : Nat) (gv : Value) (p : List Nat) (i e : Nat) (w : World) (h : ReAt w b gv p i e) :
    Calls Try.prog 108 #[.pointer (some ⟨b, 0, none⟩)] w fun r w' => r = .returned (.int .u64 (rUvar p i e).1) ∧ ReAt w' b gv p (rUvar p i e).2.1 (rUvar p i e).2.2 ∧ Kept [b] w w' := by
  have HR := hide h
  have c1 := h.c1
  have c2 := h.c2
  have f1 := h.free 1
  have f2 := h.free 2
  have hl : p.length ≤ 140737488355328 := by obtain ⟨_, _, _, _, rfl, _, ⟨_, h3⟩, _⟩ := h.rd; exact h3
  have hle := h.le
  clear h
  by_cases he : e = 0
  · subst he
    by_cases hs : (fuv (p.drop i) 0 0).2 = 0
    · have HV := hide (by simp [rUvar, hs] : rUvar p i 0 = (0, i, 3))
      obtain ⟨x, s, hx⟩ : ∃ x s, fuv (p.drop i) 0 0 = (x, s) := ⟨_, _, rfl⟩
      rw [hx] at hs
      simp only at hs
      subst hs
      have HX := hide hx
      clear hx
      go_enter Try.func108, Try.ntmps108
      go_wp2_with (first
        | (go_at_call 100; go_must (refine (rerr_any b gv p i 0 _ (unhide HR)).mono ?_; rintro r w1 ⟨rfl, hw1⟩; subst w1))
        | (go_at_call 101; go_must (refine (rleft_any b gv p i 0 _ (unhide HR)).mono ?_; rintro r w1 ⟨lv, rfl, ⟨n, hw1⟩, hq, hb⟩; subst w1; have HQ := hide hq; clear hq hb))
        | (go_at_call 126; go_must (refine (fuv_any lv (p.drop i) _ (by exact (unhide HQ).drewN _)).mono ?_; rintro r w1 ⟨rfl, hw1⟩; subst w1; rw [unhide HX])))
      go_ret
      rw [unhide HV]
      exact ⟨rfl, ((unhide HR).drewN _).setFault 3, ((Kept.refl [b] w).drewN _).setCell (by simp) _⟩
    · have HV := hide (by simp [rUvar, hs] : rUvar p i 0 = ((fuv (p.drop i) 0 0).1, i + (fuv (p.drop i) 0 0).2, 0))
      have hfl := fuv_le (p.drop i) 0 0
      obtain ⟨x, s, hx⟩ : ∃ x s, fuv (p.drop i) 0 0 = (x, s) := ⟨_, _, rfl⟩
      rw [hx] at hs HV hfl
      simp only [List.length_drop] at hs HV hfl
      have HX := hide hx
      have ts : ((s : Int) == 0) = false := by simp; omega
      clear hx
      go_enter Try.func108, Try.ntmps108
      go_wp2_with (first
        | (go_at_call 100; go_must (refine (rerr_any b gv p i 0 _ (unhide HR)).mono ?_; rintro r w1 ⟨rfl, hw1⟩; subst w1))
        | (go_at_call 101; go_must (refine (rleft_any b gv p i 0 _ (unhide HR)).mono ?_; rintro r w1 ⟨lv, rfl, ⟨n, hw1⟩, hq, hb⟩; subst w1; have HQ := hide hq; clear hq hb))
        | (go_at_call 126; go_must (refine (fuv_any lv (p.drop i) _ (by exact (unhide HQ).drewN _)).mono ?_; rintro r w1 ⟨rfl, hw1⟩; subst w1; rw [unhide HX])))
      go_ret
      rw [unhide HV]
      exact ⟨rfl, ((unhide HR).drewN _).setAt (i + s) (by omega), ((Kept.refl [b] w).drewN _).setCell (by simp) _⟩
  · have he' : ((e : Int) != 0) = true := by rw [bne_iff_ne]; omega
    have HV := hide (by simp [rUvar, he] : rUvar p i e = (0, i, e))
    clear he
    go_enter Try.func108, Try.ntmps108
    go_wp2_with (go_at_call 100; go_must (refine (rerr_any b gv p i e _ (unhide HR)).mono ?_; rintro r w1 ⟨rfl, hw1⟩; subst w1))
    go_ret
    rw [unhide HV]
    exact ⟨rfl, unhide HR, Kept.refl _ _⟩

/-- The number that bytes write, the highest first (of 64 bits the lowest). -/
def beL (bs : List Nat) : Nat := bs.foldl (fun a c => (a * 256 + c) % 18446744073709551616) 0
theorem beL_lt (bs : List Nat) : beL bs < 18446744073709551616 := by
  unfold beL
  suffices h : ∀ (l : List Nat) (a : Nat), a < 18446744073709551616 → l.foldl (fun a c => (a * 256 + c) % 18446744073709551616) a < 18446744073709551616 from h bs 0 (by decide)
  intro l
  induction l with
  | nil => intro a h; exact h
  | cons c r ih => intro a h; exact ih _ (Nat.mod_lt _ (by decide))
theorem beL_snoc (p : List Nat) (k : Nat) (h : k < p.length) : beL (p.take (k + 1)) = (beL (p.take k) * 256 + p.getD k 0) % 18446744073709551616 := by
  rw [List.take_succ_eq_append_getElem h, beL, List.foldl_append, List.getD_eq_getElem?_getD, List.getElem?_eq_getElem h]; rfl
theorem or_byte (a c : Nat) (hc : c < 256) : bits .or .u64 (IntKind.u64.wrap ((a : Int) * 256)) (c : Int) = (((a * 256 + c) % 18446744073709551616 : Nat) : Int) := by
  rw [IntKind.wrap_u64, show ((a : Int) * 256) % 18446744073709551616 = ((a * 256 % 18446744073709551616 : Nat) : Int) from by omega, u64_or_nat _ _ (Nat.mod_lt _ (by decide)) (by omega), nat_join 8 _ c (by omega) hc]
  omega

/-- What a number of n bytes answers; the place and the fault behind it. -/
def rNum (p : List Nat) (i e n : Nat) : Nat × Nat × Nat :=
  if e ≠ 0 then (0, i, e) else if p.length - i < n then (0, i, 3) else (beL ((p.drop i).take n), i + n, 0)
end Go.Proofs.Ytkcanelboloihaa
namespace Go.Proofs.Ytkcanelboloihaa
open Go.RowKit
set_option linter.unusedVariables false
set_option linter.unusedSimpArgs false

set_option maxRecDepth 100000 in
set_option maxHeartbeats 1000000 in
theorem rnum_any (b : Nat) (gv : Value) (p : List Nat) (i e n : Nat) (w : World) (h : ReAt w b gv p i e) (hn : n ≤ 8) :
    Calls Try.prog 99 #[.pointer (some ⟨b, 0, none⟩), .int .i64 n] w fun r w' => r = .returned (.int .u64 (rNum p i e n).1) ∧ ReAt w' b gv p (rNum p i e n).2.1 (rNum p i e n).2.2 ∧ Kept [b] w w' := by
  have HR := hide h
  have c1 := h.c1
  have c2 := h.c2
  have f1 := h.free 1
  have f2 := h.free 2
  have hl : p.length ≤ 140737488355328 := by obtain ⟨_, _, _, _, rfl, _, ⟨_, h3⟩, _⟩ := h.rd; exact h3
  have hle := h.le
  have hne := hide h.ne
  clear h
  by_cases he : e = 0
  · subst he
    obtain ⟨q, hq⟩ : ∃ q, p.drop i = q := ⟨_, rfl⟩
    have hql : q.length = p.length - i := by rw [← hq]; simp
    have Hq := hide hq
    have Hql := hide hql
    have hq47 : q.length ≤ 140737488355328 := by omega
    clear hq hql
    by_cases hs : q.length < n
    · have HV := hide (by rw [unhide Hql] at hs; simp [rNum, hs] : rNum p i 0 n = (0, i, 3))
      have hs' : (q.length : Int) < n := by omega
      go_enter Try.func99, Try.ntmps99
      go_wp2_with (first
        | (go_at_call 100; go_must (refine (rerr_any b gv p i 0 _ (unhide HR)).mono ?_; rintro r w1 ⟨rfl, hw1⟩; subst w1))
        | (go_at_call 101; go_must (refine (rleft_any b gv p i 0 _ (unhide HR)).mono ?_; rintro r w1 ⟨lv, rfl, ⟨m, hw1⟩, hq, hb⟩; subst w1; rw [unhide Hq] at hq; obtain ⟨ao, len, cap, rfl, rfl, _⟩ := hq; clear hb)))
      go_ret
      rw [unhide HV]
      exact ⟨rfl, ((unhide HR).drewN _).setFault 3, ((Kept.refl [b] w).drewN _).setCell (by simp) _⟩
    · have HV := hide (by rw [unhide Hql] at hs; simp [rNum, hs, unhide Hq] : rNum p i 0 n = (beL (q.take n), i + n, 0))
      have hs' : (n : Int) ≤ q.length := by omega
      have hin : i + n ≤ p.length := by have := unhide Hql; omega
      go_enter Try.func99, Try.ntmps99
      go_wp2_with (first
        | (go_at_call 100; go_must (refine (rerr_any b gv p i 0 _ (unhide HR)).mono ?_; rintro r w1 ⟨rfl, hw1⟩; subst w1))
        | (go_at_call 101; go_must (refine (rleft_any b gv p i 0 _ (unhide HR)).mono ?_; rintro r w1 ⟨lv, rfl, ⟨m, hw1⟩, hq, hb⟩; subst w1; rw [unhide Hq] at hq; have HQ := hide hq; have HB := hide hb; obtain ⟨ao, len, cap, rfl, rfl, h2, ⟨h3, h3'⟩, _⟩ := hq; clear hb)))
      have hrd : Rd ((w.drewN m).setCell ⟨b, 1, none⟩ (.int .i64 ((i : Int) + n))) (.slice ao q.length cap) q :=
        (unhide HQ).kept (((Kept.refl [b] w).drewN m).setCell (by simp) _) (by intro x hx; simp; rintro rfl; exact unhide hne (unhide HB _ hx))
      have HFin := hide (((unhide HR).drewN m).setAt (i + n) (by omega))
      have HK := hide (((Kept.refl [b] w).drewN m).setCell (p := ⟨b, 1, none⟩) (by simp) (.int .i64 ((i : Int) + n)))
      rw [show (((i + n : Nat) : Int)) = (i : Int) + n from by omega] at HFin
      obtain ⟨W, hW⟩ : ∃ W, (w.drewN m).setCell ⟨b, 1, none⟩ (.int .i64 ((i : Int) + n)) = W := ⟨_, rfl⟩
      rw [hW] at hrd HFin HK ⊢
      obtain ⟨_, _, _, he, _, _, _, _, h5, h6⟩ := hrd
      cases he
      have H5 := hide h5
      have H6 := hide h6
      clear h5 h6 hW HQ HB hne HR
      go_loopw [6, 8, 33] (fun t6 t8 t33 wr => ∃ k : Nat, k ≤ n ∧ t33 = .int .i64 k ∧ t6 = .int .u64 (beL (q.take k)) ∧ wr = W) (fun _ _ i _ => n - (intOf i).toNat)
      case atStart => exact ⟨0, Nat.zero_le _, rfl, by simp [beL], rfl⟩
      case round =>
        obtain ⟨k, hk, rfl, rfl, rfl⟩ := hrel
        by_cases hlt : k < n
        · obtain ⟨bb, oo, rfl, hc⟩ := unhide H6 (by omega)
          have hck := hc k (by omega)
          have hkq : k < q.length := by omega
          have hcb : q.getD k 0 < 256 := unhide H5 _ (by rw [List.getD_eq_getElem?_getD, List.getElem?_eq_getElem hkq]; exact List.getElem_mem hkq)
          have hsn := beL_snoc q k hkq
          have hval := or_byte (beL (q.take k)) (q.getD k 0) hcb
          rw [← hsn] at hval
          obtain ⟨c, hcc⟩ : ∃ c, q.getD k 0 = c := ⟨_, rfl⟩
          have ha1 := beL_lt (q.take k)
          obtain ⟨a, ha⟩ : ∃ a, beL (q.take k) = a := ⟨_, rfl⟩
          obtain ⟨a', ha'⟩ : ∃ a', beL (q.take (k + 1)) = a' := ⟨_, rfl⟩
          rw [hcc] at hck hcb hval
          rw [ha] at hval ha1 ⊢
          rw [ha'] at hval
          have Ha' := hide ha'
          have hlt' : (k : Int) < n := by omega
          clear hc hcc ha ha' hsn
          go_wp2
          go_roundw
          case rel => exact ⟨k + 1, by omega, by go_num, by rw [unhide Ha'], trivial⟩
          case measure => simp [intOf]; omega
        · have hkn : k = n := by omega
          subst hkn
          go_wp2
          go_ret
          rw [unhide HV]
          exact ⟨rfl, unhide HFin, unhide HK⟩
  · have he' : ((e : Int) != 0) = true := by rw [bne_iff_ne]; omega
    have HV := hide (by simp [rNum, he] : rNum p i e n = (0, i, e))
    clear he
    go_enter Try.func99, Try.ntmps99
    go_wp2_with (go_at_call 100; go_must (refine (rerr_any b gv p i e _ (unhide HR)).mono ?_; rintro r w1 ⟨rfl, hw1⟩; subst w1))
    go_ret
    rw [unhide HV]
    exact ⟨rfl, unhide HR, Kept.refl _ _⟩

theorem ru_lt (p : List Nat) (i e n : Nat) : (rNum p i e n).1 < 18446744073709551616 := by
  unfold rNum; split
  · simp
  · split
    · simp
    · exact beL_lt _

set_option maxRecDepth 100000 in
set_option maxHeartbeats 1000000 in
theorem ru8_any (b : Nat) (gv : Value) (p : List Nat) (i e : Nat) (w : World) (h : ReAt w b gv p i e) :
    Calls Try.prog 109 #[.pointer (some ⟨b, 0, none⟩)] w fun r w' => r = .returned (.int .u8 ((rNum p i e 1).1 % 256 : Nat)) ∧ ReAt w' b gv p (rNum p i e 1).2.1 (rNum p i e 1).2.2 ∧ Kept [b] w w' := by
  have HR := hide h
  have hlt := ru_lt p i e 1
  obtain ⟨x, hx⟩ : ∃ x, (rNum p i e 1).1 = x := ⟨_, rfl⟩
  rw [hx] at hlt ⊢
  have Hx := hide hx
  clear h hx
  go_enter Try.func109, Try.ntmps109
  go_wp2_with (go_at_call 99; go_must (refine (rnum_any b gv p i e 1 _ (unhide HR) (by omega)).mono ?_; rintro r w1 ⟨rfl, h1, h2⟩; rw [unhide Hx]; have H1 := hide h1; have H2 := hide h2; clear h1 h2))
  go_ret
  exact ⟨by simp, unhide H1, unhide H2⟩

set_option maxRecDepth 100000 in
theorem newReader_any (v : Value) (p : List Nat) (w : World) (h : Rd w v p) :
    Calls Try.prog 51 #[v] w fun r w' => ∃ b gv, r = .returned (.pointer (some ⟨b, 0, none⟩)) ∧ w.heap.size ≤ b ∧ ReAt w' b gv p 0 0 ∧ (∀ x ∈ blk gv, w.heap.size ≤ x ∧ x < w'.heap.size) ∧ Kept [] w w' := by
  have HR := hide h
  have hp : ∀ x ∈ p, x < 256 := by obtain ⟨_, _, _, _, _, _, _, _, h5, _⟩ := h; exact h5
  have hl : p.length ≤ 140737488355328 := by obtain ⟨_, _, _, _, rfl, _, ⟨_, h3⟩, _⟩ := h; exact h3
  clear h
  go_enter Try.func51, Try.ntmps51
  go_wp2_with (go_at_call 98; go_must (refine (cloned_any v p _ (unhide HR)).mono ?_; rintro r w1 ⟨rfl, h1, h2⟩; have H1 := hide h1; have H2 := hide h2; clear h1 h2))
  go_ret
  have hlt := lt_of_block (unhide H2)
  refine ⟨w1.heap.size, _, rfl, by omega, ⟨heap_alloc_new w1 _, ?_, Nat.zero_le _, ?_⟩, ?_, (unhide H1).alloc _⟩
  · exact (rd_fresh (unhide H2) hp hl).kept ((Kept.refl [] w1).alloc _) (by simp)
  · simp [blk]; omega
  · simp [blk]; omega
end Go.Proofs.Ytkcanelboloihaa
