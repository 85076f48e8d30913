import Derived.Test.YtialndpejechbaaQOne2
namespace Go.Proofs.Ytialndpejechbaa
open Go.RowKit Go.MuLone Go.BigFrame
set_option linter.unusedVariables false
set_option linter.unusedSimpArgs false

/-- A queue of its own, in memory that is new since w. -/
def Nw (w0 w : World) (q : Nat) (pl : Int) (xs : List Value) (cl : Bool) : Prop := ∃ v, QAt 70 3 w q pl v xs cl ∧ Kept [] w0 w ∧ ∀ b ∈ q :: blk v, w0.heap.size ≤ b
theorem nw_new (pl : Int) (w0 w : World) (k : Kept [] w0 w) (h : 1 ≤ pl ∧ pl ≤ 64) :
    Calls Try.prog 9 #[.int .i64 pl] w fun e w' => ∃ q, e = .returned (.tuple #[.pointer (some ⟨q, 0, none⟩), .int .i64 0]) ∧ Nw w0 w' q pl [] false := by
  refine (newI_any pl w h).mono ?_
  rintro e w' ⟨q, rfl, h1, h2, h3⟩
  exact ⟨q, rfl, _, h2, k.trans h3 (by simp), by simp [blk]; exact Nat.le_trans k.size h1⟩
theorem nw_put {w0 w : World} {q : Nat} {pl : Int} {xs : List Value} (x : Int) (h : Nw w0 w q pl xs false) (hp : 1 ≤ pl) (hl : xs.length ≤ 1000000000000) (r : Bool) (hr : decide ((xs.length : Int) + 1 ≤ pl) = r) :
    Calls Try.prog 19 #[.pointer (some ⟨q, 0, none⟩), .int .i64 x] w fun e w' => e = .returned (.tuple #[.bool r, .int .i64 0]) ∧ Nw w0 w' q pl (xs ++ [.int .i64 x]) false := by
  obtain ⟨v, h1, h2, h3⟩ := h
  refine (putI_open q w pl x v xs h1 hp hl).mono ?_
  rintro e w' ⟨rfl, v', g1, g2, g3⟩
  refine ⟨by rw [hr], v', g1, h2.trans g2 (fun b hb => .inr (h3 b hb)), fun b hb => ?_⟩
  rcases List.mem_cons.1 hb with e | e
  · exact h3 b (by simp [e])
  · exact (g3 b e).elim (fun h => h3 b (by simp [h])) (fun h => Nat.le_trans h2.size h)
theorem nw_put_shut {w0 w : World} {q : Nat} {pl : Int} {xs : List Value} (x : Int) (h : Nw w0 w q pl xs true) (hp : 1 ≤ pl) :
    Calls Try.prog 19 #[.pointer (some ⟨q, 0, none⟩), .int .i64 x] w fun e w' => e = .returned (.tuple #[.bool false, .int .i64 9]) ∧ Nw w0 w' q pl xs true := by
  obtain ⟨v, h1, h2, h3⟩ := h
  refine (putI_shut q w pl x v xs h1 hp).mono ?_
  rintro e w' ⟨rfl, g1, g2⟩
  exact ⟨rfl, v, g1, h2.trans g2 (fun b hb => .inr (h3 b (by simp at hb; simp [hb]))), h3⟩
theorem nw_take {w0 w : World} {q : Nat} {pl n : Int} {xs : List Value} {cl : Bool} (h : Nw w0 w q pl (.int .i64 n :: xs) cl) (hp : 1 ≤ pl) :
    Calls Try.prog 21 #[.pointer (some ⟨q, 0, none⟩)] w fun e w' => e = .returned (.tuple #[.int .i64 n, .bool true]) ∧ Nw w0 w' q pl xs cl := by
  obtain ⟨v, h1, h2, h3⟩ := h
  refine (takeI_one q w pl n v xs cl h1 hp).mono ?_
  rintro e w' ⟨rfl, v', g1, g2, g3⟩
  refine ⟨rfl, v', g1, h2.trans g2 (fun b hb => .inr (h3 b hb)), fun b hb => ?_⟩
  rcases List.mem_cons.1 hb with e | e
  · exact h3 b (by simp [e])
  · exact h3 b (by simp [g3 b e])
theorem nw_take_nil {w0 w : World} {q : Nat} {pl : Int} {cl : Bool} (h : Nw w0 w q pl [] cl) (hp : 1 ≤ pl) :
    Calls Try.prog 21 #[.pointer (some ⟨q, 0, none⟩)] w fun e w' => e = .returned (.tuple #[.int .i64 0, .bool false]) ∧ Nw w0 w' q pl [] cl := by
  obtain ⟨v, h1, h2, h3⟩ := h
  refine (takeI_nil q w pl v cl h1 hp).mono ?_
  rintro e w' ⟨rfl, g1, g2⟩
  exact ⟨rfl, v, g1, h2.trans g2 (fun b hb => .inr (h3 b (by simp at hb; simp [hb]))), h3⟩
theorem nw_len {w0 w : World} {q : Nat} {pl : Int} {xs : List Value} {cl : Bool} (h : Nw w0 w q pl xs cl) (hp : 1 ≤ pl) (hl : xs.length ≤ 1000000000001) (r : Int) (hr : inQ pl xs.length = r) :
    Calls Try.prog 23 #[.pointer (some ⟨q, 0, none⟩)] w fun e w' => e = .returned (.int .i64 r) ∧ Nw w0 w' q pl xs cl := by
  obtain ⟨v, h1, h2, h3⟩ := h
  refine (lenI_any q w pl v xs cl h1 hp hl).mono ?_
  rintro e w' ⟨rfl, g1, g2⟩
  exact ⟨by rw [hr], v, g1, h2.trans g2 (fun b hb => .inr (h3 b (by simp at hb; simp [hb]))), h3⟩
theorem nw_line {w0 w : World} {q : Nat} {pl : Int} {xs : List Value} {cl : Bool} (h : Nw w0 w q pl xs cl) (hp : 1 ≤ pl) (hl : xs.length ≤ 1000000000001) (r : Int) (hr : (xs.length : Int) - inQ pl xs.length = r) :
    Calls Try.prog 24 #[.pointer (some ⟨q, 0, none⟩)] w fun e w' => e = .returned (.int .i64 r) ∧ Nw w0 w' q pl xs cl := by
  obtain ⟨v, h1, h2, h3⟩ := h
  refine (lineI_any q w pl v xs cl h1 hp hl).mono ?_
  rintro e w' ⟨rfl, g1, g2⟩
  exact ⟨by rw [hr], v, g1, h2.trans g2 (fun b hb => .inr (h3 b (by simp at hb; simp [hb]))), h3⟩
theorem nw_close {w0 w : World} {q : Nat} {pl : Int} {xs : List Value} {cl : Bool} (h : Nw w0 w q pl xs cl) (hp : 1 ≤ pl) :
    Calls Try.prog 25 #[.pointer (some ⟨q, 0, none⟩)] w fun e w' => e = .returned (.int .i64 (if cl then 9 else 0)) ∧ Nw w0 w' q pl xs true := by
  obtain ⟨v, h1, h2, h3⟩ := h
  refine (closeI_any q w pl v xs cl h1 hp).mono ?_
  rintro e w' ⟨rfl, g1, g2⟩
  exact ⟨rfl, v, g1, h2.trans g2 (fun b hb => .inr (h3 b (by simp at hb; simp [hb]))), h3⟩
theorem nw_closed {w0 w : World} {q : Nat} {pl : Int} {xs : List Value} {cl : Bool} (h : Nw w0 w q pl xs cl) (hp : 1 ≤ pl) :
    Calls Try.prog 26 #[.pointer (some ⟨q, 0, none⟩)] w fun e w' => e = .returned (.bool cl) ∧ Nw w0 w' q pl xs cl := by
  obtain ⟨v, h1, h2, h3⟩ := h
  refine (closedI_any q w pl v xs cl h1 hp).mono ?_
  rintro e w' ⟨rfl, g1, g2⟩
  exact ⟨rfl, v, g1, h2.trans g2 (fun b hb => .inr (h3 b (by simp at hb; simp [hb]))), h3⟩

set_option maxRecDepth 100000 in
set_option maxHeartbeats 2000000 in
theorem qawake_any (w : World) : Calls Try.prog 8 #[] w fun e w' => e = .returned (.bool true) ∧ Kept [] w w' := by
  go_enter Try.func8, Try.ntmps8
  go_wp2_with (first
    | (go_at_call 9; refine (nw_new 1 w _ (Kept.refl _ _) (by decide)).mono ?_; rintro e w1 ⟨q, rfl, h1⟩; have HQ := hide h1; clear h1)
    | (go_at_call 19; refine (nw_put (xs := []) _ (unhide HQ) (by decide) (by simp) true (by simp)).mono ?_; rintro e w1 ⟨rfl, h1⟩; replace HQ := hide h1; clear h1)
    | (go_at_call 19; refine (nw_put (xs := [] ++ [.int .i64 7]) _ (unhide HQ) (by decide) (by simp) false (by simp)).mono ?_; rintro e w1 ⟨rfl, h1⟩; replace HQ := hide (h1 : Nw w w1 q 1 [.int .i64 7, .int .i64 8] false); clear h1)
    | (go_at_call 23; refine (nw_len (unhide HQ) (by decide) (by simp) 1 (by simp [inQ])).mono ?_; rintro e w1 ⟨rfl, h1⟩; replace HQ := hide h1; clear h1)
    | (go_at_call 24; refine (nw_line (xs := [.int .i64 7, .int .i64 8]) (unhide HQ) (by decide) (by simp) 1 (by simp [inQ])).mono ?_; rintro e w1 ⟨rfl, h1⟩; replace HQ := hide h1; clear h1)
    | (go_at_call 24; refine (nw_line (xs := [.int .i64 8]) (unhide HQ) (by decide) (by simp) 0 (by simp [inQ])).mono ?_; rintro e w1 ⟨rfl, h1⟩; replace HQ := hide h1; clear h1)
    | (go_at_call 21; refine (nw_take (unhide HQ) (by decide)).mono ?_; rintro e w1 ⟨rfl, h1⟩; replace HQ := hide h1; clear h1)
    | (go_at_call 25; refine (nw_close (unhide HQ) (by decide)).mono ?_; rintro e w1 ⟨rfl, h1⟩; replace HQ := hide h1; clear h1)
    | (go_at_call 26; refine (nw_closed (unhide HQ) (by decide)).mono ?_; rintro e w1 ⟨rfl, h1⟩; replace HQ := hide h1; clear h1))
  go_ret
  obtain ⟨v, _, h2, _⟩ := unhide HQ
  exact ⟨rfl, h2⟩

end Go.Proofs.Ytialndpejechbaa
