import Derived.Test.YtbbjbpjpejekgaaDoorDSum
import Derived.Test.YtbbjbpjpejekgaaDoorJoin
namespace Go.Proofs.YtbbjbpjpejekgaaDoor
open Go.RowKit Go.BigFrame
set_option linter.unusedVariables false
set_option linter.unusedSimpArgs false

theorem Tryd.infoB : (Tryd.prog.info? 24).map (fun i => (i.zero, i.size, i.bytes)) = some (some (.slice none 0 0), 1, 24) := by kernel_rfl
/-- One value more behind a row of slices that is owned. -/
theorem pushV (w : World) (base : Nat) (v : Value) (xs : List Value) (x : Value) (H : Nat) (h : w.ownsRow base 24 1 v xs.length xs) (hnew : w.heap[H]? = some (.cells #[x] 24 (0, 0))) (hx : x.oneCell' = true) (hl : xs.length + 1 ≤ 1000000000000) (hb : base ≤ w.heap.size) :
    ∃ g cap w1, (Builtin.append_ #[38, 38] 38 #[v, .slice (some ⟨H, 0, none⟩) 1 1]).run Tryd.prog w = .ok (.slice (some ⟨g, 0, none⟩) (xs.length + 1) cap) w1 ∧
      w1.ownsRow base 24 1 (.slice (some ⟨g, 0, none⟩) (xs.length + 1) cap) (xs.length + 1) (xs ++ [x]) ∧ w.grownBy w1 v.ownBlock ∧ (v.ownBlock = some g ∨ g = w.heap.size) := by
  obtain ⟨i0, hi, hz0, hz1, hz2⟩ := info_parts Tryd.infoB
  obtain ⟨g, cap, w1, hr, hown, hgrow, hat, hlt⟩ := run_append_lies (P := Tryd.prog) w 38 38 base 24 i0 (.slice none 0 0) 1 24 Tryd.underlying38 hi hz0 hz1 hz2 rfl (by decide)
    v xs.length xs h ⟨H, 0, none⟩ 1 1 [x] rfl (World.news_of_block hnew) (by simpa using hx) (by decide) (by unfold maxLen; omega) (by omega) hb _ rfl
  exact ⟨g, cap, w1, hr, hown, hgrow, hat⟩
theorem wpList_pushV {ops : Array Oper} {rest : List Oper} {o : Oper} {a : Act} {Q : Exit → Act → World → Prop} (hgd : o.guard = none) (s x : Operand)
    (ho : o.op = .call { callee := .builtin .append, args := #[s, x], argTypes := #[38, 38] }) (hty : o.type = 38)
    (w : World) (base : Nat) (v : Value) (xs : List Value) (y : Value) (H : Nat) (h : w.ownsRow base 24 1 v xs.length xs) (hnew : w.heap[H]? = some (.cells #[y] 24 (0, 0))) (hy : y.oneCell' = true) (hl : xs.length + 1 ≤ 1000000000000) (hb : base ≤ w.heap.size)
    (hs : a.eval s = v) (hx : a.eval x = .slice (some ⟨H, 0, none⟩) 1 1)
    (hK : ∀ g cap w1, Hid (w1.ownsRow base 24 1 (.slice (some ⟨g, 0, none⟩) (xs.length + 1) cap) (xs.length + 1) (xs ++ [y])) → Hid (w.grownBy w1 v.ownBlock) → Hid (v.ownBlock = some g ∨ g = w.heap.size) →
      wpList Tryd.prog ops Q rest (a.put o.dst (.slice (some ⟨g, 0, none⟩) (xs.length + 1) cap)) w1) :
    wpList Tryd.prog ops Q (o :: rest) a w := by
  obtain ⟨g, cap, w1, hrun, h2, h3, h4⟩ := pushV w base v xs y H h hnew hy hl hb
  refine wpList_plain hgd fun K hK' => ?_
  unfold Oper.wp execOp
  simp only [ho, hty, resolve, invoke, builtin, Sem.run_bind, Sem.run_pure, Result.andThen_ok, List.map_toArray, List.map_cons, List.map_nil, hs, hx, hrun]
  exact hK' _ _ (hK g cap w1 h2 h3 h4)

/-- Rows of lists that are owned, each in memory of its own. -/
structure Own (w0 w : World) (v : Value) (ps : List (List Nat)) (i : Nat) (xs : List Value) : Prop where
  own : w.ownsRow w0.heap.size 24 1 v i xs
  len : xs.length = i
  le : i ≤ ps.length
  rd : ∀ j, j < i → Rd w (xs.getD j undef) (ps.getD j [])
  apart : ∀ j, j < i → ∀ b ∈ blk (xs.getD j undef), v.ownBlock ≠ some b
  lt : ∀ j, j < i → ∀ b ∈ blk (xs.getD j undef), w0.heap.size ≤ b ∧ b < w.heap.size
  kept : Kept [] w0 w
theorem Own.rdl {w0 w : World} {v : Value} {ps : List (List Nat)} {i : Nat} {xs : List Value} (h : Own w0 w v ps i xs) (hi : i = ps.length) (hm : ps.length ≤ 1000000000000) : RdL w v ps := by
  rcases h.own.2 with ⟨rfl, h0⟩ | ⟨g, cap, cur, rfl, _, hg, hc, hm', hs, ht⟩
  · have : ps = [] := List.eq_nil_of_length_eq_zero (by omega)
    subst this
    exact ⟨none, 0, 0, [], rfl, rfl, rfl, Nat.le_refl _, by omega, fun h => by omega, fun i h => by omega⟩
  · refine ⟨_, _, _, xs, rfl, h.len, hi.symm, hc, by unfold maxLen at hm'; omega, fun _ => ⟨g, 0, rfl, fun j hj => ?_⟩, h.rd⟩
    have hjx : j < xs.length := by rw [h.len]; exact hj
    have := h.own.cells (g := g) rfl j (xs.getD j undef) (by rw [List.getD_eq_getElem?_getD, List.getElem?_eq_getElem hjx]; rfl)
    rw [Addr.add_mid] at this; exact this

theorem Own.push {w0 wr w1 W : World} {v : Value} {ps : List (List Nat)} {i : Nat} {xs : List Value} (h : Own w0 wr v ps i xs) (hi : i < ps.length) (k1 : Kept [] wr w1)
    (hx : w1.heap[wr.heap.size]? = some (.cells ((ps.getD i []).map u8).toArray 5 (0, 0))) (hb : ∀ x ∈ ps.getD i [], x < 256) (hl : (ps.getD i []).length ≤ 140737488355328) {ob : Obj} {g cap n : Nat} (hn : n = (ps.getD i []).length)
    (o : W.ownsRow w0.heap.size 24 1 (.slice (some ⟨g, 0, none⟩) (xs.length + 1) cap) (xs.length + 1) (xs ++ [.slice (some ⟨wr.heap.size, 0, none⟩) n n])) (gr : (w1.alloc ob).grownBy W v.ownBlock) (hg : v.ownBlock = some g ∨ g = (w1.alloc ob).heap.size) :
    Own w0 W (.slice (some ⟨g, 0, none⟩) (xs.length + 1) cap) ps (i + 1) (xs ++ [.slice (some ⟨wr.heap.size, 0, none⟩) n n]) := by
  subst hn
  have hgr : ∀ b, b < (w1.alloc ob).heap.size → v.ownBlock ≠ some b → W.heap[b]? = (w1.alloc ob).heap[b]? := fun b hb1 hb2 => gr.block b hb1 (Ne.symm hb2)
  have hlt : wr.heap.size < w1.heap.size := lt_of_block hx
  have hsz : (w1.alloc ob).heap.size = w1.heap.size + 1 := by simp
  have hown : ∀ b, v.ownBlock = some b → w0.heap.size ≤ b ∧ b < wr.heap.size := fun b hb => h.own.lt b hb
  have kW : Kept v.ownBlock.toList wr W := ((k1.alloc ob).mono (by simp)).grown gr (by intro k hk; left; simp [hk])
  have kW0 : Kept [] w0 W := (h.kept.trans k1 (by simp)).alloc ob |>.grown gr (by intro k hk; right; exact (hown k hk).1)
  have hlen := h.len
  have gl : ∀ j, j < i → (xs ++ [Value.slice (some ⟨wr.heap.size, 0, none⟩) (ps.getD i []).length (ps.getD i []).length]).getD j undef = xs.getD j undef := fun j hj => by
    rw [List.getD_eq_getElem?_getD, List.getElem?_append_left (by omega), List.getD_eq_getElem?_getD]
  have gi : (xs ++ [Value.slice (some ⟨wr.heap.size, 0, none⟩) (ps.getD i []).length (ps.getD i []).length]).getD i undef = Value.slice (some ⟨wr.heap.size, 0, none⟩) (ps.getD i []).length (ps.getD i []).length := by
    rw [List.getD_eq_getElem?_getD, List.getElem?_append_right (by omega), hlen, Nat.sub_self]; rfl
  refine ⟨by have o2 := o; rw [hlen] at o2 ⊢; exact o2, by simp [hlen], hi, fun j hj => ?_, fun j hj => ?_, fun j hj => ?_, kW0⟩
  · rcases Nat.lt_or_ge j i with hj1 | hj1
    · rw [gl j hj1]
      exact (h.rd j hj1).kept kW (fun b hb2 hm => h.apart j hj1 b hb2 (by simpa using hm))
    · obtain rfl : j = i := by omega
      rw [gi]
      refine rd_fresh ?_ hb hl
      rw [hgr _ (by omega) (fun e => by have := (hown _ e).2; omega)]
      exact ((Kept.refl [] w1).alloc ob).heap hx (by simp)
  · rcases Nat.lt_or_ge j i with hj1 | hj1
    · rw [gl j hj1]
      intro b hb2 e
      simp only [Value.ownBlock, Option.some.injEq] at e
      subst e
      rcases hg with hg | hg
      · exact h.apart j hj1 _ hb2 hg
      · have := (h.lt j hj1 _ hb2).2; omega
    · obtain rfl : j = i := by omega
      rw [gi]
      intro b hb2 e
      simp only [Value.ownBlock, Option.some.injEq, blk, List.mem_singleton] at e hb2
      subst e
      rcases hg with hg | hg
      · have := (hown _ hg).2; omega
      · omega
  · rcases Nat.lt_or_ge j i with hj1 | hj1
    · rw [gl j hj1]
      intro b hb2
      have := h.lt j hj1 b hb2
      have := kW.size
      omega
    · obtain rfl : j = i := by omega
      rw [gi]
      intro b hb2
      simp only [blk, List.mem_singleton] at hb2
      subst hb2
      have h7 := h.kept.size
      have h8 := gr.size
      exact ⟨h7, by omega⟩

end Go.Proofs.YtbbjbpjpejekgaaDoor
