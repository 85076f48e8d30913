import Derived.Test.YtialndpejechbaaQB
import Derived.Test.YtialndpejechbaaQAw
import Derived.Test.YtialndpejechbaaSAll
namespace Go.Proofs.Ytialndpejechbaa
open Go.RowKit Go.MuLone Go.BigFrame
set_option linter.unusedVariables false
set_option linter.unusedSimpArgs false

/-- The slice value v reads as the truths bs. -/
def RdBo (w : World) (v : Value) (bs : List Bool) : Prop :=
  ∃ (ao : Option Addr) (cap : Nat), v = .slice ao bs.length cap ∧ bs.length ≤ cap ∧ cap ≤ 9223372036854775807 ∧
    (0 < bs.length → ∃ b off, ao = some ⟨b, off, none⟩ ∧ ∀ i, i < bs.length → w.cell? ⟨b, off + i, none⟩ = some (.bool (bs.getD i false)))

/-- A queue of lists, and two rows of lists, each in memory of its own that is new since w0. -/
structure QO (w0 w : World) (q : Nat) (pl : Int) (vq : Value) (xs : List Value) (cl : Bool) (vp : Value) (ps : List Value) (vg : Value) (gs : List Value) : Prop where
  qa : QAt 79 41 w q pl vq xs cl
  pr : Qr w 41 vp ps
  gr : Qr w 41 vg gs
  d1 : ∀ b ∈ blk vq, b ∉ blk vp
  d2 : ∀ b ∈ blk vq, b ∉ blk vg
  d3 : ∀ b ∈ blk vp, b ∉ blk vg
  lq : w0.heap.size ≤ q
  l1 : ∀ b ∈ blk vq, w0.heap.size ≤ b
  l2 : ∀ b ∈ blk vp, w0.heap.size ≤ b
  l3 : ∀ b ∈ blk vg, w0.heap.size ≤ b
  kept : Kept [] w0 w

section
variable {w0 w w' w1 w2 : World} {q : Nat} {pl : Int} {vq vp vg : Value} {xs ps gs : List Value} {cl : Bool}
theorem QO.qp (h : QO w0 w q pl vq xs cl vp ps vg gs) : q ∉ blk vp := h.pr.apart h.qa.row (by decide)
theorem QO.qg (h : QO w0 w q pl vq xs cl vp ps vg gs) : q ∉ blk vg := h.gr.apart h.qa.row (by decide)
theorem QO.pass (h : QO w0 w q pl vq xs cl vp ps vg gs) (k : Kept [] w w') : QO w0 w' q pl vq xs cl vp ps vg gs :=
  ⟨h.qa.row |> fun r => ⟨k.heap r (by simp), h.qa.vals.kept k (by simp)⟩, h.pr.kept k (by simp), h.gr.kept k (by simp), h.d1, h.d2, h.d3, h.lq, h.l1, h.l2, h.l3, h.kept.trans k (by simp)⟩
/-- The queue has gone on. -/
theorem QO.goQ {vq' : Value} {xs' : List Value} {cl' : Bool} (h : QO w0 w q pl vq xs cl vp ps vg gs) (k : Kept (q :: blk vq) w w') (h' : QAt 79 41 w' q pl vq' xs' cl') (hb : ∀ b ∈ blk vq', b ∈ blk vq ∨ w.heap.size ≤ b) : QO w0 w' q pl vq' xs' cl' vp ps vg gs where
  qa := h'
  pr := h.pr.kept k (by intro b hb hm; rcases List.mem_cons.1 hm with e | e; exact h.qp (e ▸ hb); exact h.d1 b e hb)
  gr := h.gr.kept k (by intro b hb hm; rcases List.mem_cons.1 hm with e | e; exact h.qg (e ▸ hb); exact h.d2 b e hb)
  d1 := fun b h1 h2 => (hb b h1).elim (fun h3 => h.d1 b h3 h2) (fun h3 => by have := h.pr.lt b h2; omega)
  d2 := fun b h1 h2 => (hb b h1).elim (fun h3 => h.d2 b h3 h2) (fun h3 => by have := h.gr.lt b h2; omega)
  d3 := h.d3
  lq := h.lq
  l1 := fun b h1 => (hb b h1).elim (h.l1 b) (fun h3 => Nat.le_trans h.kept.size h3)
  l2 := h.l2
  l3 := h.l3
  kept := h.kept.trans k (fun b hb => by rcases List.mem_cons.1 hb with e | e; exact .inr (e ▸ h.lq); exact .inr (h.l1 b e))
/-- One more behind the first row. -/
theorem QO.pushP {vp' : Value} {ps' : List Value} (h : QO w0 w q pl vq xs cl vp ps vg gs) (k : Kept (blk vp) w w') (h' : Qr w' 41 vp' ps') (hb : ∀ b ∈ blk vp', b ∈ blk vp ∨ w.heap.size ≤ b) : QO w0 w' q pl vq xs cl vp' ps' vg gs where
  qa := ⟨k.heap h.qa.row h.qp, h.qa.vals.kept k (fun b hb hm => h.d1 b hb hm)⟩
  pr := h'
  gr := h.gr.kept k (fun b hb hm => h.d3 b hm hb)
  d1 := fun b h1 h2 => (hb b h2).elim (fun h3 => h.d1 b h1 h3) (fun h3 => by have := h.qa.vals.lt b h1; omega)
  d2 := h.d2
  d3 := fun b h1 h2 => (hb b h1).elim (fun h3 => h.d3 b h3 h2) (fun h3 => by have := h.gr.lt b h2; omega)
  lq := h.lq
  l1 := h.l1
  l2 := fun b h1 => (hb b h1).elim (h.l2 b) (fun h3 => Nat.le_trans h.kept.size h3)
  l3 := h.l3
  kept := h.kept.trans k (fun b hb => .inr (h.l2 b hb))
/-- One more behind the second row. -/
theorem QO.pushG {vg' : Value} {gs' : List Value} (h : QO w0 w q pl vq xs cl vp ps vg gs) (k : Kept (blk vg) w w') (h' : Qr w' 41 vg' gs') (hb : ∀ b ∈ blk vg', b ∈ blk vg ∨ w.heap.size ≤ b) : QO w0 w' q pl vq xs cl vp ps vg' gs' where
  qa := ⟨k.heap h.qa.row h.qg, h.qa.vals.kept k (fun b hb hm => h.d2 b hb hm)⟩
  pr := h.pr.kept k (fun b hb hm => h.d3 b hb hm)
  gr := h'
  d1 := h.d1
  d2 := fun b h1 h2 => (hb b h2).elim (fun h3 => h.d2 b h1 h3) (fun h3 => by have := h.qa.vals.lt b h1; omega)
  d3 := fun b h1 h2 => (hb b h2).elim (fun h3 => h.d3 b h1 h3) (fun h3 => by have := h.pr.lt b h1; omega)
  lq := h.lq
  l1 := h.l1
  l2 := h.l2
  l3 := fun b h1 => (hb b h1).elim (h.l3 b) (fun h3 => Nat.le_trans h.kept.size h3)
  kept := h.kept.trans k (fun b hb => .inr (h.l3 b hb))

theorem qo_put (xa : Option Addr) (xn xc : Nat) (h : QO w0 w q pl vq xs false vp ps vg gs) (hp : 1 ≤ pl) (hl : xs.length ≤ 1000000000000) (r : Bool) (hr : decide ((xs.length : Int) + 1 ≤ pl) = r) :
    Calls Try.prog 13 #[.pointer (some ⟨q, 0, none⟩), .slice xa xn xc] w fun e w' => e = .returned (.tuple #[.bool r, .int .i64 0]) ∧ ∃ vq', QO w0 w' q pl vq' (xs ++ [.slice xa xn xc]) false vp ps vg gs := by
  refine (putB_open q w pl xa xn xc vq xs h.qa hp hl).mono ?_
  rintro e w' ⟨rfl, v', g1, g2, g3⟩
  exact ⟨by rw [hr], v', h.goQ g2 g1 g3⟩
theorem qo_shut (xa : Option Addr) (xn xc : Nat) (h : QO w0 w q pl vq xs true vp ps vg gs) (hp : 1 ≤ pl) :
    Calls Try.prog 13 #[.pointer (some ⟨q, 0, none⟩), .slice xa xn xc] w fun e w' => e = .returned (.tuple #[.bool false, .int .i64 9]) ∧ QO w0 w' q pl vq xs true vp ps vg gs := by
  refine (putB_shut q w pl xa xn xc vq xs h.qa hp).mono ?_
  rintro e w' ⟨rfl, g1, g2⟩
  exact ⟨rfl, h.goQ (g2.mono (by simp)) g1 (fun b hb => .inl hb)⟩
theorem qo_take {na : Option Addr} {nn nc : Nat} (h : QO w0 w q pl vq (.slice na nn nc :: xs) cl vp ps vg gs) (hp : 1 ≤ pl) :
    Calls Try.prog 15 #[.pointer (some ⟨q, 0, none⟩)] w fun e w' => e = .returned (.tuple #[.slice na nn nc, .bool true]) ∧ ∃ vq', QO w0 w' q pl vq' xs cl vp ps vg gs := by
  refine (takeB_one q w pl na nn nc vq xs cl h.qa hp).mono ?_
  rintro e w' ⟨rfl, v', g1, g2, g3⟩
  exact ⟨rfl, v', h.goQ g2 g1 (fun b hb => .inl (g3 b hb))⟩
theorem qo_take_nil (h : QO w0 w q pl vq [] cl vp ps vg gs) (hp : 1 ≤ pl) :
    Calls Try.prog 15 #[.pointer (some ⟨q, 0, none⟩)] w fun e w' => e = .returned (.tuple #[.slice none 0 0, .bool false]) ∧ QO w0 w' q pl vq [] cl vp ps vg gs := by
  refine (takeB_nil q w pl vq cl h.qa hp).mono ?_
  rintro e w' ⟨rfl, g1, g2⟩
  exact ⟨rfl, h.goQ (g2.mono (by simp)) g1 (fun b hb => .inl hb)⟩
theorem qo_len (h : QO w0 w q pl vq xs cl vp ps vg gs) (hp : 1 ≤ pl) (hl : xs.length ≤ 1000000000001) (r : Int) (hr : inQ pl xs.length = r) :
    Calls Try.prog 16 #[.pointer (some ⟨q, 0, none⟩)] w fun e w' => e = .returned (.int .i64 r) ∧ QO w0 w' q pl vq xs cl vp ps vg gs := by
  refine (lenB_any q w pl vq xs cl h.qa hp hl).mono ?_
  rintro e w' ⟨rfl, g1, g2⟩
  exact ⟨by rw [hr], h.goQ (g2.mono (by simp)) g1 (fun b hb => .inl hb)⟩
theorem qo_line (h : QO w0 w q pl vq xs cl vp ps vg gs) (hp : 1 ≤ pl) (hl : xs.length ≤ 1000000000001) (r : Int) (hr : (xs.length : Int) - inQ pl xs.length = r) :
    Calls Try.prog 14 #[.pointer (some ⟨q, 0, none⟩)] w fun e w' => e = .returned (.int .i64 r) ∧ QO w0 w' q pl vq xs cl vp ps vg gs := by
  refine (lineB_any q w pl vq xs cl h.qa hp hl).mono ?_
  rintro e w' ⟨rfl, g1, g2⟩
  exact ⟨by rw [hr], h.goQ (g2.mono (by simp)) g1 (fun b hb => .inl hb)⟩
theorem qo_close (h : QO w0 w q pl vq xs cl vp ps vg gs) (hp : 1 ≤ pl) :
    Calls Try.prog 17 #[.pointer (some ⟨q, 0, none⟩)] w fun e w' => e = .returned (.int .i64 (if cl then 9 else 0)) ∧ QO w0 w' q pl vq xs true vp ps vg gs := by
  refine (closeB_any q w pl vq xs cl h.qa hp).mono ?_
  rintro e w' ⟨rfl, g1, g2⟩
  exact ⟨rfl, h.goQ (g2.mono (by simp)) g1 (fun b hb => .inl hb)⟩
end

/-- A row of lists that reads so. -/
theorem Qr.rdl {w : World} {v : Value} {vs : List Value} {bs : List (List Nat)} (h : Qr w 41 v vs) (hl : vs.length = bs.length) (hr : ∀ i, i < vs.length → Rd w (vs.getD i undef) (bs.getD i [])) : RdL w v bs := by
  rcases h with ⟨rfl, rfl⟩ | ⟨g, off, cap, cur, rfl, hg, h1, h2, h3, h4⟩
  · have : bs = [] := List.eq_nil_of_length_eq_zero (by simpa using hl.symm)
    subst this
    exact ⟨none, 0, 0, [], rfl, rfl, rfl, Nat.le_refl _, by omega, fun h => by omega, fun i h => by omega⟩
  · refine ⟨_, _, _, vs, rfl, rfl, hl.symm, h1, by unfold maxLen at h3; omega, fun _ => ⟨g, off, rfl, fun i hi => ?_⟩, hr⟩
    rw [cell_of_row w g (off + i) _ _ (0, 0) hg]
    refine h4 i _ ?_
    rw [List.getD_eq_getElem?_getD, List.getElem?_eq_getElem hi]; rfl
end Go.Proofs.Ytialndpejechbaa
