import Derived.Test.YtialndpejechbaaQRef2
namespace Go.Proofs.Ytialndpejechbaa
open Go.RowKit Go.MuLone Go.BigFrame
set_option linter.unusedVariables false
set_option linter.unusedSimpArgs false

abbrev iv (n : Int) : Value := .int .i64 n
/-- A queue and the document's, in memory apart. -/
structure Two (w : World) (q p : Nat) (pl : Int) (vq : Value) (xs : List Value) (cl : Bool) (vp : Value) (ys : List Value) (dl : Bool) : Prop where
  qa : QAt 70 3 w q pl vq xs cl
  ra : RAt w p pl vp ys dl
  apart : ∀ b ∈ blk vq, b ∉ blk vp
theorem Two.ne {w : World} {q p : Nat} {pl : Int} {vq vp : Value} {xs ys : List Value} {cl dl : Bool} (h : Two w q p pl vq xs cl vp ys dl) : q ≠ p := by
  intro e
  subst e
  have := h.qa.row
  rw [h.ra.row] at this
  cases this
theorem Two.qv {w : World} {q p : Nat} {pl : Int} {vq vp : Value} {xs ys : List Value} {cl dl : Bool} (h : Two w q p pl vq xs cl vp ys dl) : q ∉ blk vp := h.ra.vals.apart h.qa.row (by decide)
theorem Two.pv {w : World} {q p : Nat} {pl : Int} {vq vp : Value} {xs ys : List Value} {cl dl : Bool} (h : Two w q p pl vq xs cl vp ys dl) : p ∉ blk vq := h.qa.vals.apart h.ra.row (by decide)
/-- The one has gone on. -/
theorem Two.goQ {w w' : World} {q p : Nat} {pl : Int} {vq vp vq' : Value} {xs ys xs' : List Value} {cl dl cl' : Bool} (h : Two w q p pl vq xs cl vp ys dl) (k : Kept (q :: blk vq) w w') (h' : QAt 70 3 w' q pl vq' xs' cl') (hb : ∀ b ∈ blk vq', b ∈ blk vq ∨ w.heap.size ≤ b) : Two w' q p pl vq' xs' cl' vp ys dl :=
  ⟨h', h.ra.kept k (by intro hm; rcases List.mem_cons.1 hm with e | e; exact h.ne e.symm; exact h.pv e) (by intro b hb hm; rcases List.mem_cons.1 hm with e | e; exact h.qv (e ▸ hb); exact h.apart b e hb),
    fun b h1 h2 => (hb b h1).elim (fun h3 => h.apart b h3 h2) (fun h3 => by have := h.ra.vals.lt b h2; omega)⟩
/-- The other has gone on. -/
theorem Two.goR {w w' : World} {q p : Nat} {pl : Int} {vq vp vp' : Value} {xs ys ys' : List Value} {cl dl dl' : Bool} (h : Two w q p pl vq xs cl vp ys dl) (k : Kept (p :: blk vp) w w') (h' : RAt w' p pl vp' ys' dl') (hb : ∀ b ∈ blk vp', b ∈ blk vp ∨ w.heap.size ≤ b) : Two w' q p pl vq xs cl vp' ys' dl' :=
  ⟨h.qa.kept k (by intro hm; rcases List.mem_cons.1 hm with e | e; exact h.ne e; exact h.qv e) (by intro b hb hm; rcases List.mem_cons.1 hm with e | e; exact h.pv (e ▸ hb); exact h.apart b hb e), h',
    fun b h1 h2 => (hb b h2).elim (fun h3 => h.apart b h1 h3) (fun h3 => by have := h.qa.vals.lt b h1; omega)⟩
theorem Two.pass {L : List Nat} {w w' : World} {q p : Nat} {pl : Int} {vq vp : Value} {xs ys : List Value} {cl dl : Bool} (h : Two w q p pl vq xs cl vp ys dl) (k : Kept L w w') (hL : ∀ b, b = q ∨ b = p ∨ b ∈ blk vq ∨ b ∈ blk vp → b ∉ L) : Two w' q p pl vq xs cl vp ys dl :=
  ⟨h.qa.kept k (hL q (by simp)) (fun b hb => hL b (by simp [hb])), h.ra.kept k (hL p (by simp)) (fun b hb => hL b (by simp [hb])), h.apart⟩
/-- What a call makes of the values, and whether it is closed then. -/
def stepV (k x : Int) (xs : List Int) (cl : Bool) : List Int := if k = 1 then (if cl then xs else xs ++ [x]) else if k = 2 then xs.tail else xs
def stepC (k : Int) (cl : Bool) : Bool := if k = 3 then true else cl

section
variable {w : World} {q p : Nat} {pl : Int} {vq vp : Value} {xs ys : List Value} {cl dl : Bool}
theorem lenT (h : Two w q p pl vq xs cl vp ys dl) (hp : 1 ≤ pl) (hn : xs.length ≤ 1000000000001) : Calls Try.prog 23 #[.pointer (some ⟨q, 0, none⟩)] w fun e w' => e = .returned (.int .i64 (inQ pl xs.length)) ∧ Two w' q p pl vq xs cl vp ys dl ∧ Kept [q, p] w w' := by
  refine (lenI_any q w pl vq xs cl h.qa hp hn).mono ?_
  rintro e w' ⟨rfl, h1, h2⟩
  exact ⟨rfl, h.goQ (h2.mono (by simp)) h1 (fun b hb => .inl hb), h2.mono (by simp)⟩
theorem lineT (h : Two w q p pl vq xs cl vp ys dl) (hp : 1 ≤ pl) (hn : xs.length ≤ 1000000000001) : Calls Try.prog 24 #[.pointer (some ⟨q, 0, none⟩)] w fun e w' => e = .returned (.int .i64 ((xs.length : Int) - inQ pl xs.length)) ∧ Two w' q p pl vq xs cl vp ys dl ∧ Kept [q, p] w w' := by
  refine (lineI_any q w pl vq xs cl h.qa hp hn).mono ?_
  rintro e w' ⟨rfl, h1, h2⟩
  exact ⟨rfl, h.goQ (h2.mono (by simp)) h1 (fun b hb => .inl hb), h2.mono (by simp)⟩
theorem closedT (h : Two w q p pl vq xs cl vp ys dl) (hp : 1 ≤ pl) : Calls Try.prog 26 #[.pointer (some ⟨q, 0, none⟩)] w fun e w' => e = .returned (.bool cl) ∧ Two w' q p pl vq xs cl vp ys dl ∧ Kept [q, p] w w' := by
  refine (closedI_any q w pl vq xs cl h.qa hp).mono ?_
  rintro e w' ⟨rfl, h1, h2⟩
  exact ⟨rfl, h.goQ (h2.mono (by simp)) h1 (fun b hb => .inl hb), h2.mono (by simp)⟩
theorem lenU (h : Two w q p pl vq xs cl vp ys dl) (hn : ys.length ≤ 1000000000001) : Calls Try.prog 34 #[.pointer (some ⟨p, 0, none⟩)] w fun e w' => e = .returned (.int .i64 (inQ pl ys.length)) ∧ Two w' q p pl vq xs cl vp ys dl ∧ Kept [q, p] w w' := by
  refine (lenR_any p w pl vp ys dl h.ra hn).mono ?_
  rintro e w' ⟨rfl, h2⟩
  exact ⟨rfl, h.pass h2 (by simp), h2.mono (by simp)⟩
theorem lineU (h : Two w q p pl vq xs cl vp ys dl) (hn : ys.length ≤ 1000000000001) (hp : 1 ≤ pl ∧ pl ≤ 64) : Calls Try.prog 35 #[.pointer (some ⟨p, 0, none⟩)] w fun e w' => e = .returned (.int .i64 ((ys.length : Int) - inQ pl ys.length)) ∧ Two w' q p pl vq xs cl vp ys dl ∧ Kept [q, p] w w' := by
  refine (lineR_any p w pl vp ys dl h.ra hn hp).mono ?_
  rintro e w' ⟨rfl, h2⟩
  exact ⟨rfl, h.pass h2 (by simp), h2.mono (by simp)⟩
theorem closedU (h : Two w q p pl vq xs cl vp ys dl) : Calls Try.prog 36 #[.pointer (some ⟨p, 0, none⟩)] w fun e w' => e = .returned (.bool dl) ∧ Two w' q p pl vq xs cl vp ys dl ∧ Kept [q, p] w w' := by
  refine (closedR_any p w pl vp ys dl h.ra).mono ?_
  rintro e w' ⟨rfl, h2⟩
  exact ⟨rfl, h.pass h2 (by simp), h2.mono (by simp)⟩
end

set_option maxRecDepth 100000 in
set_option maxHeartbeats 4000000 in
theorem one_nil (k x : Int) (w : World) : Calls Try.prog 11 #[.pointer none, .pointer none, .agg #[.int .i64 k, .int .i64 x]] w fun e w' => e = .returned (.bool true) ∧ Kept [] w w' := by
  by_cases k1 : k = 1
  · subst k1
    go_enter Try.func11, Try.ntmps11
    go_wp2_with (first
      | (go_at_call 19; refine (putI_nil x _).mono ?_; rintro e w1 ⟨rfl, rfl⟩)
      | (go_at_call 31; refine (putR_nil x _).mono ?_; rintro e w1 ⟨rfl, rfl⟩)
      | (go_at_call 21; refine (takeI_none _).mono ?_; rintro e w1 ⟨rfl, rfl⟩)
      | (go_at_call 32; refine (takeR_none _).mono ?_; rintro e w1 ⟨rfl, rfl⟩)
      | (go_at_call 25; refine (closeI_nil _).mono ?_; rintro e w1 ⟨rfl, rfl⟩)
      | (go_at_call 33; refine (closeR_nil _).mono ?_; rintro e w1 ⟨rfl, rfl⟩)
      | (go_at_call 23; refine (lenI_nil _).mono ?_; rintro e w1 ⟨rfl, rfl⟩)
      | (go_at_call 24; refine (lineI_nil _).mono ?_; rintro e w1 ⟨rfl, rfl⟩)
      | (go_at_call 26; refine (closedI_nil _).mono ?_; rintro e w1 ⟨rfl, rfl⟩)
      | (go_at_call 34; refine (lenR_nil _).mono ?_; rintro e w1 ⟨rfl, rfl⟩)
      | (go_at_call 35; refine (lineR_nil _).mono ?_; rintro e w1 ⟨rfl, rfl⟩)
      | (go_at_call 36; refine (closedR_nil _).mono ?_; rintro e w1 ⟨rfl, rfl⟩))
    go_ret
    exact ⟨rfl, (Kept.refl [] w).alloc _⟩
  by_cases k2 : k = 2
  · subst k2
    go_enter Try.func11, Try.ntmps11
    go_wp2_with (first
      | (go_at_call 19; refine (putI_nil x _).mono ?_; rintro e w1 ⟨rfl, rfl⟩)
      | (go_at_call 31; refine (putR_nil x _).mono ?_; rintro e w1 ⟨rfl, rfl⟩)
      | (go_at_call 21; refine (takeI_none _).mono ?_; rintro e w1 ⟨rfl, rfl⟩)
      | (go_at_call 32; refine (takeR_none _).mono ?_; rintro e w1 ⟨rfl, rfl⟩)
      | (go_at_call 25; refine (closeI_nil _).mono ?_; rintro e w1 ⟨rfl, rfl⟩)
      | (go_at_call 33; refine (closeR_nil _).mono ?_; rintro e w1 ⟨rfl, rfl⟩)
      | (go_at_call 23; refine (lenI_nil _).mono ?_; rintro e w1 ⟨rfl, rfl⟩)
      | (go_at_call 24; refine (lineI_nil _).mono ?_; rintro e w1 ⟨rfl, rfl⟩)
      | (go_at_call 26; refine (closedI_nil _).mono ?_; rintro e w1 ⟨rfl, rfl⟩)
      | (go_at_call 34; refine (lenR_nil _).mono ?_; rintro e w1 ⟨rfl, rfl⟩)
      | (go_at_call 35; refine (lineR_nil _).mono ?_; rintro e w1 ⟨rfl, rfl⟩)
      | (go_at_call 36; refine (closedR_nil _).mono ?_; rintro e w1 ⟨rfl, rfl⟩))
    go_ret
    exact ⟨rfl, (Kept.refl [] w).alloc _⟩
  by_cases k3 : k = 3
  · subst k3
    go_enter Try.func11, Try.ntmps11
    go_wp2_with (first
      | (go_at_call 19; refine (putI_nil x _).mono ?_; rintro e w1 ⟨rfl, rfl⟩)
      | (go_at_call 31; refine (putR_nil x _).mono ?_; rintro e w1 ⟨rfl, rfl⟩)
      | (go_at_call 21; refine (takeI_none _).mono ?_; rintro e w1 ⟨rfl, rfl⟩)
      | (go_at_call 32; refine (takeR_none _).mono ?_; rintro e w1 ⟨rfl, rfl⟩)
      | (go_at_call 25; refine (closeI_nil _).mono ?_; rintro e w1 ⟨rfl, rfl⟩)
      | (go_at_call 33; refine (closeR_nil _).mono ?_; rintro e w1 ⟨rfl, rfl⟩)
      | (go_at_call 23; refine (lenI_nil _).mono ?_; rintro e w1 ⟨rfl, rfl⟩)
      | (go_at_call 24; refine (lineI_nil _).mono ?_; rintro e w1 ⟨rfl, rfl⟩)
      | (go_at_call 26; refine (closedI_nil _).mono ?_; rintro e w1 ⟨rfl, rfl⟩)
      | (go_at_call 34; refine (lenR_nil _).mono ?_; rintro e w1 ⟨rfl, rfl⟩)
      | (go_at_call 35; refine (lineR_nil _).mono ?_; rintro e w1 ⟨rfl, rfl⟩)
      | (go_at_call 36; refine (closedR_nil _).mono ?_; rintro e w1 ⟨rfl, rfl⟩))
    go_ret
    exact ⟨rfl, (Kept.refl [] w).alloc _⟩
  · have e1 : (k == 1) = false := by simpa using k1
    have e2 : (k == 2) = false := by simpa using k2
    have e3 : (k == 3) = false := by simpa using k3
    go_enter Try.func11, Try.ntmps11
    go_wp2_with (first
      | (go_at_call 19; refine (putI_nil x _).mono ?_; rintro e w1 ⟨rfl, rfl⟩)
      | (go_at_call 31; refine (putR_nil x _).mono ?_; rintro e w1 ⟨rfl, rfl⟩)
      | (go_at_call 21; refine (takeI_none _).mono ?_; rintro e w1 ⟨rfl, rfl⟩)
      | (go_at_call 32; refine (takeR_none _).mono ?_; rintro e w1 ⟨rfl, rfl⟩)
      | (go_at_call 25; refine (closeI_nil _).mono ?_; rintro e w1 ⟨rfl, rfl⟩)
      | (go_at_call 33; refine (closeR_nil _).mono ?_; rintro e w1 ⟨rfl, rfl⟩)
      | (go_at_call 23; refine (lenI_nil _).mono ?_; rintro e w1 ⟨rfl, rfl⟩)
      | (go_at_call 24; refine (lineI_nil _).mono ?_; rintro e w1 ⟨rfl, rfl⟩)
      | (go_at_call 26; refine (closedI_nil _).mono ?_; rintro e w1 ⟨rfl, rfl⟩)
      | (go_at_call 34; refine (lenR_nil _).mono ?_; rintro e w1 ⟨rfl, rfl⟩)
      | (go_at_call 35; refine (lineR_nil _).mono ?_; rintro e w1 ⟨rfl, rfl⟩)
      | (go_at_call 36; refine (closedR_nil _).mono ?_; rintro e w1 ⟨rfl, rfl⟩))
    go_ret
    exact ⟨rfl, (Kept.refl [] w).alloc _⟩

end Go.Proofs.Ytialndpejechbaa
