import Derived.Test.YtbbjbpjpejekgaaFOwn
import Derived.Test.YtbbjbpjpejekgaaAOws
namespace Go.Proofs.Ytbbjbpjpejekgaa
open Go.RowKit Go.BigFrame
set_option linter.unusedVariables false
set_option linter.unusedSimpArgs false

theorem owns_shapeV {w : World} {base : Nat} {e : TypeId} {v : Value} {n : Nat} {xs : List Value} (h : w.ownsRow base e 1 v n xs) : ∃ ao cap, v = .slice ao n cap := by
  rcases h.2 with ⟨rfl, rfl⟩ | ⟨g, cap, cur, rfl, _⟩
  · exact ⟨_, _, rfl⟩
  · exact ⟨_, _, rfl⟩
/-- All of an owned row of lists behind another one. -/
theorem appV (w : World) (base b2 : Nat) (v u : Value) (xs ys : List Value) (h : w.ownsRow base 22 1 v xs.length xs) (h2 : w.ownsRow b2 22 1 u ys.length ys) (hy : ∀ x ∈ ys, x.oneCell' = true) (hl : xs.length + ys.length ≤ 1000000000000) (hb : base ≤ w.heap.size) :
    ∃ ao' cap' w1, (Builtin.append_ #[42, 42] 42 #[v, u]).run Try.prog w = .ok (.slice ao' (xs.length + ys.length) cap') w1 ∧
      w1.ownsRow base 22 1 (.slice ao' (xs.length + ys.length) cap') (xs ++ ys).length (xs ++ ys) ∧ w.grownBy w1 v.ownBlock := by
  obtain ⟨i0, hi, hz0, hz1, hz2⟩ := info_parts Try.infoB
  rcases h2.2 with ⟨rfl, h0⟩ | ⟨g, cap, cur, rfl, hb2, hg, hc, hm, hs, ht⟩
  · have hys : ys = [] := List.eq_nil_of_length_eq_zero h0
    subst hys
    have hrun := run_append_owned_none (P := Try.prog) (w := w) base 42 42 22 i0 1 Try.underlying42 hi v xs.length xs h
    obtain ⟨ao', cap', rfl⟩ := owns_shapeV h
    exact ⟨ao', cap', w, hrun, by simpa using h, World.grownBy.refl _ _⟩
  · obtain ⟨v', w1, hrun, hown, hgrow, _, hat⟩ := run_append_own_at (P := Try.prog) w base 42 42 22 i0 (.slice none 0 0) 1 24 Try.underlying42 hi hz0 hz1 hz2 rfl (by decide)
      v xs.length xs h ⟨g, 0, none⟩ ys.length cap ys (by simp) (fun j u hj => h2.cells (g := g) rfl j u hj) hy (by unfold maxLen; omega) (by omega) hb
    obtain ⟨ao', cap', rfl⟩ := owns_shapeV hown
    exact ⟨ao', cap', w1, hrun, by rw [List.length_append]; exact hown, hgrow⟩
theorem wp_appV {o : Oper} {a : Act} {K : Act → World → Prop} {Q : Exit → Act → World → Prop} (s x : Operand)
    (ho : o.op = .call { callee := .builtin .append, args := #[s, x], argTypes := #[42, 42] }) (hty : o.type = 42)
    (w : World) (base b2 : Nat) (v u : Value) (xs ys : List Value) (h : w.ownsRow base 22 1 v xs.length xs) (h2 : w.ownsRow b2 22 1 u ys.length ys) (hy : ∀ x ∈ ys, x.oneCell' = true) (hl : xs.length + ys.length ≤ 1000000000000) (hb : base ≤ w.heap.size)
    (hs : a.eval s = v) (hx : a.eval x = u)
    (hK : ∀ ao' cap' w1, w1.ownsRow base 22 1 (.slice ao' (xs.length + ys.length) cap') (xs ++ ys).length (xs ++ ys) → w.grownBy w1 v.ownBlock → K (a.put o.dst (.slice ao' (xs.length + ys.length) cap')) w1) : o.wp Try.prog a w K Q := by
  obtain ⟨ao', cap', w1, hr, h3, h4⟩ := appV w base b2 v u xs ys h h2 hy hl hb
  unfold Oper.wp execOp
  simp only [ho, hty, resolve, invoke, builtin, Sem.run_bind, Sem.run_pure, Result.andThen_ok, List.map_toArray, List.map_cons, List.map_nil, hs, hx, hr]
  exact hK ao' cap' w1 h3 h4
theorem wpList_appV {ops : Array Oper} {rest : List Oper} {o : Oper} {a : Act} {Q : Exit → Act → World → Prop} (hgd : o.guard = none) (s x : Operand)
    (ho : o.op = .call { callee := .builtin .append, args := #[s, x], argTypes := #[42, 42] }) (hty : o.type = 42)
    (w : World) (base b2 : Nat) (v u : Value) (xs ys : List Value) (h : w.ownsRow base 22 1 v xs.length xs) (h2 : w.ownsRow b2 22 1 u ys.length ys) (hy : ∀ x ∈ ys, x.oneCell' = true) (hl : xs.length + ys.length ≤ 1000000000000) (hb : base ≤ w.heap.size)
    (hs : a.eval s = v) (hx : a.eval x = u)
    (hK : ∀ ao' cap' w1, Hid (w1.ownsRow base 22 1 (.slice ao' (xs.length + ys.length) cap') (xs ++ ys).length (xs ++ ys)) → Hid (w.grownBy w1 v.ownBlock) → wpList Try.prog ops Q rest (a.put o.dst (.slice ao' (xs.length + ys.length) cap')) w1) :
    wpList Try.prog ops Q (o :: rest) a w :=
  wpList_plain hgd fun _ hK' => wp_appV s x ho hty w base b2 v u xs ys h h2 hy hl hb hs hx fun ao' cap' w1 h3 h4 => hK' _ _ (hK ao' cap' w1 h3 h4)
/-- Apart of an owned row of lists. -/
theorem apart_own (base b2 : Nat) (v : Value) (L : List LT) (w : World) (h : w.ownsRow b2 22 1 v L.length (L.map vT)) (ho : Ows base w L) (hb : ∀ t ∈ L, t.2.1 ≤ 4194304) (hl : L.length ≤ 4194304) :
    Calls Try.prog 26 #[v] w fun e w' => e = .returned (.bool true) ∧ Kept (blks L) w w' := by
  rcases h.2 with ⟨rfl, h0⟩ | ⟨g, cap, cur, rfl, hb2, hg, hc, hm, hs, ht⟩
  · have hL : L = [] := List.eq_nil_of_length_eq_zero h0
    subst hL
    exact apart_any none 0 [] w (by simp) (by intro i j hi; simp at hi) (by simp) (by simp) (by simp)
  · rw [Nat.mul_one] at ht
    refine apart_row base g _ cap cur (0, 0) L w hg rfl (fun i hi => ?_) ho hb hl
    have h1 : (cur.toList.take L.length)[i]? = some (vT L[i]) := by rw [ht]; simp [hi]
    rw [List.getElem?_take, if_pos hi, Array.getElem?_toList] at h1
    exact h1
theorem vT_one (t : LT) : (vT t).oneCell' = true := rfl
end Go.Proofs.Ytbbjbpjpejekgaa
