import Derived.Test.YtbbjbpjpejekgaaRBlob
import Derived.Test.YtbbjbpjpejekgaaLay
namespace Go.Proofs.Ytbbjbpjpejekgaa
open Go.RowKit
set_option linter.unusedVariables false
set_option linter.unusedSimpArgs false

set_option maxRecDepth 100000 in
set_option maxHeartbeats 1000000 in
theorem ru16_any (b : Nat) (gv : Value) (p : List Nat) (i e : Nat) (w : World) (h : ReAt w b gv p i e) :
    Calls Try.prog 49 #[.pointer (some ⟨b, 0, none⟩)] w fun r w' => r = .returned (.int .u16 ((rNum p i e 2).1 % 65536 : Nat)) ∧ ReAt w' b gv p (rNum p i e 2).2.1 (rNum p i e 2).2.2 ∧ Kept [b] w w' := by
  have HR := hide h
  have hlt := ru_lt p i e 2
  obtain ⟨x, hx⟩ : ∃ x, (rNum p i e 2).1 = x := ⟨_, rfl⟩
  rw [hx] at hlt ⊢
  have Hx := hide hx
  clear h hx
  have hwr : IntKind.u16.wrap (x : Int) = ((x % 65536 : Nat) : Int) := by simp [IntKind.wrap, IntKind.bits, IntKind.signed]
  have Hwr := hide hwr
  clear hwr
  go_enter Try.func49, Try.ntmps49
  go_wp2_with (go_at_call 34; go_must (refine (rnum_any b gv p i e 2 _ (unhide HR) (by omega)).mono ?_; rintro r w1 ⟨rfl, h1, h2⟩; rw [unhide Hx]; have H1 := hide h1; have H2 := hide h2; clear h1 h2))
  go_ret
  exact ⟨by first | (simp; done) | (rw [← unhide Hwr]; rfl), unhide H1, unhide H2⟩

set_option maxRecDepth 100000 in
set_option maxHeartbeats 1000000 in
theorem ru32_any (b : Nat) (gv : Value) (p : List Nat) (i e : Nat) (w : World) (h : ReAt w b gv p i e) :
    Calls Try.prog 50 #[.pointer (some ⟨b, 0, none⟩)] w fun r w' => r = .returned (.int .u32 ((rNum p i e 4).1 % 4294967296 : Nat)) ∧ ReAt w' b gv p (rNum p i e 4).2.1 (rNum p i e 4).2.2 ∧ Kept [b] w w' := by
  have HR := hide h
  have hlt := ru_lt p i e 4
  obtain ⟨x, hx⟩ : ∃ x, (rNum p i e 4).1 = x := ⟨_, rfl⟩
  rw [hx] at hlt ⊢
  have Hx := hide hx
  clear h hx
  have hwr : IntKind.u32.wrap (x : Int) = ((x % 4294967296 : Nat) : Int) := by simp [IntKind.wrap, IntKind.bits, IntKind.signed]
  have Hwr := hide hwr
  clear hwr
  go_enter Try.func50, Try.ntmps50
  go_wp2_with (go_at_call 34; go_must (refine (rnum_any b gv p i e 4 _ (unhide HR) (by omega)).mono ?_; rintro r w1 ⟨rfl, h1, h2⟩; rw [unhide Hx]; have H1 := hide h1; have H2 := hide h2; clear h1 h2))
  go_ret
  exact ⟨by first | (simp; done) | (rw [← unhide Hwr]; rfl), unhide H1, unhide H2⟩

set_option maxRecDepth 100000 in
set_option maxHeartbeats 1000000 in
theorem ru64_any (b : Nat) (gv : Value) (p : List Nat) (i e : Nat) (w : World) (h : ReAt w b gv p i e) :
    Calls Try.prog 51 #[.pointer (some ⟨b, 0, none⟩)] w fun r w' => r = .returned (.int .u64 (rNum p i e 8).1) ∧ ReAt w' b gv p (rNum p i e 8).2.1 (rNum p i e 8).2.2 ∧ Kept [b] w w' := by
  have HR := hide h
  clear h
  go_enter Try.func51, Try.ntmps51
  go_wp2_with (go_at_call 34; go_must (refine (rnum_any b gv p i e 8 _ (unhide HR) (by omega)).mono ?_; rintro r w1 ⟨rfl, h1, h2⟩; have H1 := hide h1; have H2 := hide h2; clear h1 h2))
  go_ret
  exact ⟨rfl, unhide H1, unhide H2⟩

/-- What the law's 'take' answers: a number, bytes; the place and the fault behind it. -/
def rTake (p : List Nat) (i e : Nat) (k n : Int) : Nat × List Nat × Nat × Nat :=
  if k = 1 then ((rNum p i e 1).1 % 256, [], (rNum p i e 1).2) else if k = 2 then ((rNum p i e 2).1 % 65536, [], (rNum p i e 2).2) else if k = 3 then ((rNum p i e 4).1 % 4294967296, [], (rNum p i e 4).2)
  else if k = 4 then ((rNum p i e 8).1, [], (rNum p i e 8).2) else if k = 5 then ((rUvar p i e).1, [], (rUvar p i e).2) else if k = 6 then (0, rRaw p i e n) else if k = 7 then (0, rBlob p i e n) else (0, [], i, e)

set_option maxRecDepth 100000 in
set_option maxHeartbeats 4000000 in
theorem take_any (b : Nat) (gv : Value) (p : List Nat) (i e : Nat) (k : Int) (x : Nat) (n : Int) (pv : Value) (w : World) (h : ReAt w b gv p i e) (hn : -9223372036854775808 ≤ n ∧ n ≤ 9223372036854775807) :
    Calls Try.prog 27 #[.pointer (some ⟨b, 0, none⟩), opV k x n pv] w fun r w' => ∃ rv, r = .returned (.tuple #[.int .u64 (rTake p i e k n).1, rv]) ∧ Rd w' rv (rTake p i e k n).2.1 ∧ ReAt w' b gv p (rTake p i e k n).2.2.1 (rTake p i e k n).2.2.2 ∧ Kept [b] w w' ∧ ∀ x ∈ blk rv, w.heap.size ≤ x := by
  have HR := hide (h.kept ((Kept.refl [] w).alloc (.cells #[.int .i64 k, .int .u64 x, .int .i64 n, pv] 44)) (by simp) (by simp))
  have Hn := hide hn
  clear h hn
  rcases kinds7 k with rfl | rfl | rfl | rfl | rfl | rfl | rfl | ⟨h1, h2, h3, h4, h5, h6, h7⟩
  · have HV := hide (show rTake p i e 1 n = ((rNum p i e 1).1 % 256, [], (rNum p i e 1).2) from rfl)
    go_enter Try.func27, Try.ntmps27
    go_wp2_with fail
    refine (ru8_any b gv p i e _ (unhide HR)).mono ?_
    rintro r w1 ⟨rfl, h1, h2⟩
    have H1 := hide h1
    have H2 := hide (((Kept.refl [b] w).alloc _).trans h2 (by simp))
    clear h1 h2
    obtain ⟨z, hz⟩ : ∃ z, (rNum p i e 1).1 % 256 = z := ⟨_, rfl⟩
    have hz2 : z < 18446744073709551616 := by rw [← hz]; omega
    rw [hz] at HV ⊢
    clear hz
    go_wp2
    go_ret2
    rw [unhide HV]
    exact ⟨_, rfl, Rd.nil _, unhide H1, unhide H2, by simp [blk]⟩
  · have HV := hide (show rTake p i e 2 n = ((rNum p i e 2).1 % 65536, [], (rNum p i e 2).2) from rfl)
    go_enter Try.func27, Try.ntmps27
    go_wp2_with fail
    refine (ru16_any b gv p i e _ (unhide HR)).mono ?_
    rintro r w1 ⟨rfl, h1, h2⟩
    have H1 := hide h1
    have H2 := hide (((Kept.refl [b] w).alloc _).trans h2 (by simp))
    clear h1 h2
    obtain ⟨z, hz⟩ : ∃ z, (rNum p i e 2).1 % 65536 = z := ⟨_, rfl⟩
    have hz2 : z < 18446744073709551616 := by rw [← hz]; omega
    rw [hz] at HV ⊢
    clear hz
    go_wp2
    go_ret2
    rw [unhide HV]
    exact ⟨_, rfl, Rd.nil _, unhide H1, unhide H2, by simp [blk]⟩
  · have HV := hide (show rTake p i e 3 n = ((rNum p i e 4).1 % 4294967296, [], (rNum p i e 4).2) from rfl)
    go_enter Try.func27, Try.ntmps27
    go_wp2_with fail
    refine (ru32_any b gv p i e _ (unhide HR)).mono ?_
    rintro r w1 ⟨rfl, h1, h2⟩
    have H1 := hide h1
    have H2 := hide (((Kept.refl [b] w).alloc _).trans h2 (by simp))
    clear h1 h2
    obtain ⟨z, hz⟩ : ∃ z, (rNum p i e 4).1 % 4294967296 = z := ⟨_, rfl⟩
    have hz2 : z < 18446744073709551616 := by rw [← hz]; omega
    rw [hz] at HV ⊢
    clear hz
    go_wp2
    go_ret2
    rw [unhide HV]
    exact ⟨_, rfl, Rd.nil _, unhide H1, unhide H2, by simp [blk]⟩
  · have HV := hide (show rTake p i e 4 n = ((rNum p i e 8).1, [], (rNum p i e 8).2) from rfl)
    go_enter Try.func27, Try.ntmps27
    go_wp2_with fail
    refine (ru64_any b gv p i e _ (unhide HR)).mono ?_
    rintro r w1 ⟨rfl, h1, h2⟩
    have H1 := hide h1
    have H2 := hide (((Kept.refl [b] w).alloc _).trans h2 (by simp))
    clear h1 h2
    obtain ⟨z, hz⟩ : ∃ z, (rNum p i e 8).1 = z := ⟨_, rfl⟩
    have hz2 : z < 18446744073709551616 := by rw [← hz]; exact ru_lt _ _ _ _
    rw [hz] at HV ⊢
    clear hz
    go_wp2
    go_ret2
    rw [unhide HV]
    exact ⟨_, rfl, Rd.nil _, unhide H1, unhide H2, by simp [blk]⟩
  · have HV := hide (show rTake p i e 5 n = ((rUvar p i e).1, [], (rUvar p i e).2) from rfl)
    go_enter Try.func27, Try.ntmps27
    go_wp2_with fail
    refine (ruvar_any b gv p i e _ (unhide HR)).mono ?_
    rintro r w1 ⟨rfl, h1, h2⟩
    have H1 := hide h1
    have H2 := hide (((Kept.refl [b] w).alloc _).trans h2 (by simp))
    clear h1 h2
    obtain ⟨z, hz⟩ : ∃ z, (rUvar p i e).1 = z := ⟨_, rfl⟩
    rw [hz] at HV ⊢
    clear hz
    go_wp2
    go_ret2
    rw [unhide HV]
    exact ⟨_, rfl, Rd.nil _, unhide H1, unhide H2, by simp [blk]⟩
  · have HV := hide (show rTake p i e 6 n = (0, rRaw p i e n) from rfl)
    go_enter Try.func27, Try.ntmps27
    go_wp2_with fail
    refine (rraw_any b gv p i e n _ (unhide HR) (unhide Hn)).mono ?_
    rintro r w1 ⟨rv, rfl, h0, h1, h2, h3⟩
    have H0 := hide h0
    have H1 := hide h1
    have H2 := hide (((Kept.refl [b] w).alloc _).trans h2 (by simp))
    have H3 := hide (show ∀ y ∈ blk rv, w.heap.size ≤ y from fun y hy => by have := h3 y hy; simp at this; omega)
    clear h0 h1 h2 h3
    go_wp2
    go_ret2
    rw [unhide HV]
    exact ⟨_, rfl, unhide H0, unhide H1, unhide H2, unhide H3⟩
  · have HV := hide (show rTake p i e 7 n = (0, rBlob p i e n) from rfl)
    go_enter Try.func27, Try.ntmps27
    go_wp2_with fail
    refine (rblob_any b gv p i e n _ (unhide HR) (unhide Hn)).mono ?_
    rintro r w1 ⟨rv, rfl, h0, h1, h2, h3⟩
    have H0 := hide h0
    have H1 := hide h1
    have H2 := hide (((Kept.refl [b] w).alloc _).trans h2 (by simp))
    have H3 := hide (show ∀ y ∈ blk rv, w.heap.size ≤ y from fun y hy => by have := h3 y hy; simp at this; omega)
    clear h0 h1 h2 h3
    go_wp2
    go_ret2
    rw [unhide HV]
    exact ⟨_, rfl, unhide H0, unhide H1, unhide H2, unhide H3⟩
  · have t1 : (k == 1) = false := by simp [h1]
    have t2 : (k == 2) = false := by simp [h2]
    have t3 : (k == 3) = false := by simp [h3]
    have t4 : (k == 4) = false := by simp [h4]
    have t5 : (k == 5) = false := by simp [h5]
    have t6 : (k == 6) = false := by simp [h6]
    have t7 : (k == 7) = false := by simp [h7]
    have HV := hide (by simp [rTake, h1, h2, h3, h4, h5, h6, h7] : rTake p i e k n = (0, [], i, e))
    clear h1 h2 h3 h4 h5 h6 h7
    go_enter Try.func27, Try.ntmps27
    go_wp2
    go_ret2
    rw [unhide HV]
    exact ⟨_, rfl, Rd.nil _, unhide HR, (Kept.refl [b] w).alloc _, by simp [blk]⟩
end Go.Proofs.Ytbbjbpjpejekgaa
