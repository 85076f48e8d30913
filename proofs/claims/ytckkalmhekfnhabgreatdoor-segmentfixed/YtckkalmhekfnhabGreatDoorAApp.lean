import Derived.Test.YtckkalmhekfnhabGreatDoorJoin
import Derived.Deep.DeepAppendRoom
import Derived.ArgAppend
import Derived.BigFrame
namespace Go.Proofs.YtckkalmhekfnhabGreatDoor
open Go.RowKit
set_option linter.unusedVariables false
set_option linter.unusedSimpArgs false

theorem owns_base {w : World} {b b' e s n : Nat} {v : Value} {xs : List Value} (h : w.ownsRow b e s v n xs) (hb : b' ≤ b) : w.ownsRow b' e s v n xs := by
  refine ⟨h.1, ?_⟩
  rcases h.2 with h9 | ⟨g, cap, cur, h1, h2, h3⟩
  · exact .inl h9
  · exact .inr ⟨g, cap, cur, h1, Nat.le_trans hb h2, h3⟩
/-- A beginning of an owned row, with all its room, is owned. -/
theorem owns_take {w : World} {base : Nat} {a : Option Addr} {m c : Nat} {bs : List Nat} (h : w.ownsRow base 5 1 (.slice a m c) bs.length (bs.map u8)) (n : Nat) (hn : n ≤ bs.length) : w.ownsRow base 5 1 (.slice a n c) (bs.take n).length ((bs.take n).map u8) := by
  have hl : (bs.take n).length = n := by rw [List.length_take]; omega
  refine ⟨by simp, ?_⟩
  rcases h.2 with ⟨h9, h0⟩ | ⟨g, cap, cur, h1, h2, h3, h4, h5, h6, h7⟩
  · cases h9
    exact .inl ⟨by rw [show n = 0 by omega], by omega⟩
  · cases h1
    refine .inr ⟨g, c, cur, by rw [hl], h2, h3, by omega, h5, h6, ?_⟩
    rw [Nat.mul_one] at h7 ⊢
    rw [List.map_take, ← h7, List.take_take, hl, Nat.min_eq_left (by omega)]
/-- Where a row lies behind an append: where it lay, or in memory that is new. -/
def Went (w : World) (v v' : Value) : Prop := (∃ a n m c, v = .slice a n c ∧ v' = .slice a m c) ∨ ∃ g, v'.ownBlock = some g ∧ w.heap.size ≤ g
/-- All of a slice behind a row that is owned: both are owned then. -/
theorem appendTwo (w : World) (base : Nat) (v : Value) (bs p : List Nat) (ao : Option Addr) (n c : Nat) (h : w.ownsRow base 5 1 v bs.length (bs.map u8)) (hr : Rd w (.slice ao n c) p) (hl : bs.length + p.length ≤ 140737488355328) (hb : base ≤ w.heap.size) :
    ∃ ao' cap' w1, (Builtin.append_ #[29, 29] 29 #[v, .slice ao n c]).run Tryz.prog w = .ok (.slice ao' (bs.length + p.length) cap') w1 ∧
      w1.ownsRow base 5 1 (.slice ao' (bs.length + p.length) cap') (bs ++ p).length ((bs ++ p).map u8) ∧ w1.ownsRow base 5 1 v bs.length (bs.map u8) ∧ w.grownBy w1 v.ownBlock ∧ Went w v (.slice ao' (bs.length + p.length) cap') := by
  obtain ⟨i0, hi, hz0, hz1, hz2⟩ := info_parts Tryz.info5
  obtain ⟨ao1, n1, c1, he, hn, h2, ⟨h3, h3'⟩, h4, h5, h6⟩ := id hr
  cases he
  subst hn
  cases ao with
  | none =>
    have hc0 := h4 rfl
    have hp : p = [] := List.eq_nil_of_length_eq_zero (by omega)
    subst hp
    subst hc0
    have hrun := run_append_owned_none (P := Tryz.prog) (w := w) base 29 29 5 i0 1 Tryz.underlying29 hi v bs.length (bs.map u8) h
    obtain ⟨ao', cap', rfl⟩ := owns_shape h
    exact ⟨ao', cap', w, hrun, by simpa using h, h, World.grownBy.refl _ _, .inl ⟨_, _, _, _, rfl, rfl⟩⟩
  | some ad =>
    have hnews : ∀ j u, (p.map u8)[j]? = some u → w.cell? (ad.add j) = some u := by
      intro j u hj
      by_cases h0 : 0 < (p.map u8).length
      · obtain ⟨ad', e, hc⟩ := hr.src h0
        cases e
        exact hc j u hj
      · have : p.map u8 = [] := List.eq_nil_of_length_eq_zero (by omega)
        rw [this] at hj; simp at hj
    rcases h.2 with ⟨rfl, h0⟩ | ⟨g, cap, cur, rfl, _, hg, hc, hm, hs, ht⟩
    · obtain ⟨v', w1, hrun, hown, hgrow, _, hat⟩ := run_append_own_at (P := Tryz.prog) w base 29 29 5 i0 (.int .u8 0) 1 1 Tryz.underlying29 hi hz0 hz1 hz2 rfl (by decide)
        _ bs.length (bs.map u8) h ad p.length c (p.map u8) (by simp) hnews (u8_oneCell p) (by unfold maxLen; omega) (by omega) hb
      obtain ⟨ao', cap', rfl⟩ := owns_shape hown
      have hbs : bs = [] := List.eq_nil_of_length_eq_zero h0
      subst hbs
      refine ⟨ao', cap', w1, hrun, by simpa using hown, World.ownsRow_nil _ _ _ _, hgrow, ?_⟩
      rcases hown.2 with ⟨h9, _⟩ | ⟨g, cap, cur, h9, _⟩
      · injection h9 with e1 e2 e3; subst e1; subst e3; exact .inl ⟨_, _, _, _, rfl, rfl⟩
      · injection h9 with e1 e2 e3
        subst e1
        rcases hat with h8 | h8
        · simp [Value.ownBlock] at h8
        · exact .inr ⟨_, h8, Nat.le_refl _⟩
    · by_cases hroom : bs.length + p.length ≤ cap
      · obtain ⟨w1, hrun, hown, hgrow⟩ := run_append_own_spare (P := Tryz.prog) w base 29 29 5 i0 1 Tryz.underlying29 hi hz1 g bs.length cap (bs.map u8) h ad p.length c (p.map u8) (by simp) hnews (u8_oneCell p) hroom
        have hnew : w1.ownsRow base 5 1 (.slice (some ⟨g, 0, none⟩) (bs.length + p.length) cap) (bs ++ p).length ((bs ++ p).map u8) := by rw [List.length_append, List.map_append]; exact hown
        have h8 := owns_take hnew bs.length (by simp)
        rw [List.take_left] at h8
        exact ⟨_, _, w1, hrun, hnew, h8, hgrow, .inl ⟨_, _, _, _, rfl, rfl⟩⟩
      · obtain ⟨v', w1, hrun, hown, hgrow⟩ := run_append_arg_grows (P := Tryz.prog) w 29 29 5 i0 (.int .u8 0) 1 1 Tryz.underlying29 hi hz0 hz1 hz2 rfl (by decide)
          ⟨g, 0, none⟩ bs.length cap (bs.map u8) (by simp) (fun j u hj => h.cells (g := g) rfl j u hj) ad p.length c (p.map u8) (by simp) hnews (by omega) (by unfold maxLen; omega) (by omega)
        obtain ⟨ao', cap', rfl⟩ := owns_shape hown
        have hw : Went w (.slice (some ⟨g, 0, none⟩) bs.length cap) (.slice ao' (bs.length + p.length) cap') := by
          rcases hown.2 with ⟨h9, h8⟩ | ⟨g', cap2, cur2, h9, h8, _⟩
          · omega
          · cases h9; exact .inr ⟨_, rfl, h8⟩
        exact ⟨ao', cap', w1, hrun, by rw [List.length_append, List.map_append]; exact owns_base hown hb, ((Kept.refl [] w).grown hgrow (by simp)).owns h (by simp), ⟨hgrow.os, hgrow.tape, hgrow.output, hgrow.size, fun k hk _ => hgrow.block k hk (by simp)⟩, hw⟩
theorem wpList_appendTwo {ops : Array Oper} {rest : List Oper} {o : Oper} {a : Act} {Q : Exit → Act → World → Prop} (hgd : o.guard = none) (s x : Operand)
    (ho : o.op = .call { callee := .builtin .append, args := #[s, x], argTypes := #[29, 29] }) (hty : o.type = 29)
    (w : World) (base : Nat) (v : Value) (bs p : List Nat) (ao : Option Addr) (n c : Nat) (h : w.ownsRow base 5 1 v bs.length (bs.map u8)) (hr : Rd w (.slice ao n c) p) (hl : bs.length + p.length ≤ 140737488355328) (hb : base ≤ w.heap.size)
    (hs : a.eval s = v) (hx : a.eval x = .slice ao n c)
    (hK : ∀ ao' cap' w1, Hid (w1.ownsRow base 5 1 (.slice ao' (bs.length + p.length) cap') (bs ++ p).length ((bs ++ p).map u8)) → Hid (w1.ownsRow base 5 1 v bs.length (bs.map u8)) → Hid (w.grownBy w1 v.ownBlock) → Hid (Went w v (.slice ao' (bs.length + p.length) cap')) →
      wpList Tryz.prog ops Q rest (a.put o.dst (.slice ao' (bs.length + p.length) cap')) w1) :
    wpList Tryz.prog ops Q (o :: rest) a w := by
  obtain ⟨ao', cap', w1, hrun, h2, h3, h4, h5⟩ := appendTwo w base v bs p ao n c h hr hl hb
  refine wpList_plain hgd fun K hK' => ?_
  unfold Oper.wp execOp
  simp only [ho, hty, resolve, invoke, builtin, Sem.run_bind, Sem.run_pure, Result.andThen_ok, List.map_toArray, List.map_cons, List.map_nil, hs, hx, hrun]
  exact hK' _ _ (hK ao' cap' w1 h2 h3 h4 h5)
end Go.Proofs.YtckkalmhekfnhabGreatDoor
