import Derived.Test.YtjiijfcfapfmeaaDoorRdSub
import Derived.Deep.DeepAppendRoom
import Derived.ArgAppend
import Derived.BigFrame
namespace Go.Proofs.YtjiijfcfapfmeaaDoor
open Go.RowKit
set_option linter.unusedVariables false
set_option linter.unusedSimpArgs false

/-- All of a slice behind a row that is owned; the row itself reads as it did. -/
theorem appendKeep (w : World) (base : Nat) (v : Value) (bs p : List Nat) (ao : Option Addr) (n c : Nat) (h : w.ownsRow base 5 1 v bs.length (bs.map u8)) (hb5 : ∀ x ∈ bs, x < 256) (hr : Rd w (.slice ao n c) p) (hl : bs.length + p.length ≤ 140737488355328) (hb : base ≤ w.heap.size) :
    ∃ ao' cap' w1, (Builtin.append_ #[22, 22] 22 #[v, .slice ao n c]).run Tryd.prog w = .ok (.slice ao' (bs.length + p.length) cap') w1 ∧
      Rd w1 (.slice ao' (bs.length + p.length) cap') (bs ++ p) ∧ Rd w1 v bs ∧ w.grownBy w1 v.ownBlock := by
  obtain ⟨i0, hi, hz0, hz1, hz2⟩ := info_parts Tryd.info5
  obtain ⟨ao1, n1, c1, he, hn, h2, ⟨h3, h3'⟩, h4, h5, h6⟩ := id hr
  cases he
  subst hn
  have hpb : ∀ x ∈ bs ++ p, x < 256 := fun x hx => by rcases List.mem_append.1 hx with h | h; exact hb5 x h; exact h5 x h
  cases ao with
  | none =>
    have hc0 := h4 rfl
    have hp : p = [] := List.eq_nil_of_length_eq_zero (by omega)
    subst hp
    subst hc0
    have hrun := run_append_owned_none (P := Tryd.prog) (w := w) base 22 22 5 i0 1 Tryd.underlying22 hi v bs.length (bs.map u8) h
    obtain ⟨ao', cap', rfl⟩ := owns_shape h
    have hrd := rd_owns h hb5 (by omega)
    exact ⟨ao', cap', w, hrun, by simpa using hrd, hrd, World.grownBy.refl _ _⟩
  | some ad =>
    have hnews : ∀ j u, (p.map u8)[j]? = some u → w.cell? (ad.add j) = some u := by
      intro j u hj
      by_cases h0 : 0 < (p.map u8).length
      · obtain ⟨ad', e, hc⟩ := hr.src h0
        cases e
        exact hc j u hj
      · have : p.map u8 = [] := List.eq_nil_of_length_eq_zero (by omega)
        rw [this] at hj; simp at hj
    have hrd := rd_owns h hb5 (by omega)
    rcases h.2 with ⟨rfl, h0⟩ | ⟨g, cap, cur, rfl, _, hg, hc, hm, hs, ht⟩
    · obtain ⟨v', w1, hrun, hown, hgrow, _, hat⟩ := run_append_own_at (P := Tryd.prog) w base 22 22 5 i0 (.int .u8 0) 1 1 Tryd.underlying22 hi hz0 hz1 hz2 rfl (by decide)
        _ bs.length (bs.map u8) h ad p.length c (p.map u8) (by simp) hnews (u8_oneCell p) (by unfold maxLen; omega) (by omega) hb
      obtain ⟨ao', cap', rfl⟩ := owns_shape hown
      have hbs : bs = [] := List.eq_nil_of_length_eq_zero h0
      subst hbs
      refine ⟨ao', cap', w1, hrun, ?_, Rd.nil w1, hgrow⟩
      have := rd_owns (bs := p) (v := .slice ao' p.length cap') (by simpa using hown) h5 (by omega)
      simpa using this
    · by_cases hroom : bs.length + p.length ≤ cap
      · obtain ⟨w1, hrun, hown, hgrow⟩ := run_append_own_spare (P := Tryd.prog) w base 22 22 5 i0 1 Tryd.underlying22 hi hz1 g bs.length cap (bs.map u8) h ad p.length c (p.map u8) (by simp) hnews (u8_oneCell p) hroom
        have hnew := rd_owns (bs := bs ++ p) (v := .slice (some ⟨g, 0, none⟩) (bs.length + p.length) cap) (w := w1) (base := base) (by rw [List.length_append, List.map_append]; exact hown) hpb (by simpa using hl)
        refine ⟨_, _, w1, hrun, hnew, ?_, hgrow⟩
        have e : (bs ++ p).length = bs.length + p.length := by simp
        rw [← e] at hnew
        have := hnew.take (n := bs.length) (by simp)
        rw [List.take_left] at this
        exact this
      · obtain ⟨v', w1, hrun, hown, hgrow⟩ := run_append_arg_grows (P := Tryd.prog) w 22 22 5 i0 (.int .u8 0) 1 1 Tryd.underlying22 hi hz0 hz1 hz2 rfl (by decide)
          ⟨g, 0, none⟩ bs.length cap (bs.map u8) (by simp) (fun j u hj => h.cells (g := g) rfl j u hj) ad p.length c (p.map u8) (by simp) hnews (by omega) (by unfold maxLen; omega) (by omega)
        obtain ⟨ao', cap', rfl⟩ := owns_shape hown
        have hnew := rd_owns (bs := bs ++ p) (v := .slice ao' (bs.length + p.length) cap') (w := w1) (base := w.heap.size) (by rw [List.length_append, List.map_append]; exact hown) hpb (by simpa using hl)
        exact ⟨ao', cap', w1, hrun, hnew, hrd.old (L := []) ((Kept.refl [] w).grown hgrow (by simp)) (by simp), ⟨hgrow.os, hgrow.tape, hgrow.output, hgrow.size, fun k hk _ => hgrow.block k hk (by simp)⟩⟩

theorem wpList_appendKeep {ops : Array Oper} {rest : List Oper} {o : Oper} {a : Act} {Q : Exit → Act → World → Prop} (hgd : o.guard = none) (s x : Operand)
    (ho : o.op = .call { callee := .builtin .append, args := #[s, x], argTypes := #[22, 22] }) (hty : o.type = 22)
    (w : World) (base : Nat) (v : Value) (bs p : List Nat) (ao : Option Addr) (n c : Nat) (h : w.ownsRow base 5 1 v bs.length (bs.map u8)) (hb5 : ∀ x ∈ bs, x < 256) (hr : Rd w (.slice ao n c) p) (hl : bs.length + p.length ≤ 140737488355328) (hb : base ≤ w.heap.size)
    (hs : a.eval s = v) (hx : a.eval x = .slice ao n c)
    (hK : ∀ ao' cap' w1, Hid (Rd w1 (.slice ao' (bs.length + p.length) cap') (bs ++ p)) → Hid (Rd w1 v bs) → Hid (w.grownBy w1 v.ownBlock) →
      wpList Tryd.prog ops Q rest (a.put o.dst (.slice ao' (bs.length + p.length) cap')) w1) :
    wpList Tryd.prog ops Q (o :: rest) a w := by
  obtain ⟨ao', cap', w1, hrun, h2, h3, h4⟩ := appendKeep w base v bs p ao n c h hb5 hr hl hb
  refine wpList_plain hgd fun K hK' => ?_
  unfold Oper.wp execOp
  simp only [ho, hty, resolve, invoke, builtin, Sem.run_bind, Sem.run_pure, Result.andThen_ok, List.map_toArray, List.map_cons, List.map_nil, hs, hx, hrun]
  exact hK' _ _ (hK ao' cap' w1 h2 h3 h4)

/-- The same behind '&&': the guard is met. -/
theorem wpList_appendAllG {ops : Array Oper} {rest : List Oper} {o : Oper} {a : Act} {Q : Exit → Act → World → Prop} (hw : Region.wanted o (yielded ops a.tmps) = true) (s x : Operand)
    (ho : o.op = .call { callee := .builtin .append, args := #[s, x], argTypes := #[22, 22] }) (hty : o.type = 22)
    (w : World) (base : Nat) (v : Value) (bs p : List Nat) (ao : Option Addr) (n c : Nat) (h : w.ownsRow base 5 1 v bs.length (bs.map u8)) (hr : Rd w (.slice ao n c) p) (hl : bs.length + p.length ≤ 140737488355328) (hb : base ≤ w.heap.size)
    (hs : a.eval s = v) (hx : a.eval x = .slice ao n c)
    (hK : ∀ ao' cap' w1, Hid (w1.ownsRow base 5 1 (.slice ao' (bs.length + p.length) cap') (bs ++ p).length ((bs ++ p).map u8)) → Hid (w.grownBy w1 v.ownBlock) →
      Hid ((Value.slice ao' (bs.length + p.length) cap').ownBlock = v.ownBlock ∨ (Value.slice ao' (bs.length + p.length) cap').ownBlock = some w.heap.size) →
      wpList Tryd.prog ops Q rest (a.put o.dst (.slice ao' (bs.length + p.length) cap')) w1) :
    wpList Tryd.prog ops Q (o :: rest) a w := by
  obtain ⟨ao', cap', w1, hrun, h2, h3, h4⟩ := appendAll w base v bs p ao n c h hr hl hb
  refine BigFrame.wpList_want hw fun K hK' => ?_
  unfold Oper.wp execOp
  simp only [ho, hty, resolve, invoke, builtin, Sem.run_bind, Sem.run_pure, Result.andThen_ok, List.map_toArray, List.map_cons, List.map_nil, hs, hx, hrun]
  exact hK' _ _ (hK ao' cap' w1 h2 h3 h4)

/-- At a step of a region that draws its order. -/
theorem step_appendAll {ops : Array Oper} {o : Oper} {a : Act} {K : Act → World → Prop} {Q : Exit → Act → World → Prop} {E : Prop} (hgd : o.guard = none) (s x : Operand)
    (ho : o.op = .call { callee := .builtin .append, args := #[s, x], argTypes := #[22, 22] }) (hty : o.type = 22)
    (w : World) (base : Nat) (v : Value) (bs p : List Nat) (ao : Option Addr) (n c : Nat) (h : w.ownsRow base 5 1 v bs.length (bs.map u8)) (hr : Rd w (.slice ao n c) p) (hl : bs.length + p.length ≤ 140737488355328) (hb : base ≤ w.heap.size)
    (hs : a.eval s = v) (hx : a.eval x = .slice ao n c)
    (hK : ∀ ao' cap' w1, Hid (w1.ownsRow base 5 1 (.slice ao' (bs.length + p.length) cap') (bs ++ p).length ((bs ++ p).map u8)) → Hid (w.grownBy w1 v.ownBlock) →
      Hid ((Value.slice ao' (bs.length + p.length) cap').ownBlock = v.ownBlock ∨ (Value.slice ao' (bs.length + p.length) cap').ownBlock = some w.heap.size) →
      K (a.put o.dst (.slice ao' (bs.length + p.length) cap')) w1) :
    if Region.wanted o (yielded ops a.tmps) = true then Oper.wp Tryd.prog o a w K Q else E := by
  have hw : Region.wanted o (yielded ops a.tmps) = true := by simp [Region.wanted, hgd]
  rw [if_pos hw]
  obtain ⟨ao', cap', w1, hrun, h2, h3, h4⟩ := appendAll w base v bs p ao n c h hr hl hb
  unfold Oper.wp execOp
  simp only [ho, hty, resolve, invoke, builtin, Sem.run_bind, Sem.run_pure, Result.andThen_ok, List.map_toArray, List.map_cons, List.map_nil, hs, hx, hrun]
  exact hK ao' cap' w1 h2 h3 h4
end Go.Proofs.YtjiijfcfapfmeaaDoor
