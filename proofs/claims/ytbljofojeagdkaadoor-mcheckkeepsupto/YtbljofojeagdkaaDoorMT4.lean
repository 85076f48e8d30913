import Derived.Test.YtbljofojeagdkaaDoorMT3
namespace Go.Proofs.YtbljofojeagdkaaDoor
open Go.RowKit Go.BigFrame
set_option linter.unusedVariables false
set_option linter.unusedSimpArgs false

/-- The zero of a part. -/
def zP : Array Value := (List.replicate 32 (u8 0) ++ [Value.pointer none]).toArray
theorem Tryd.infoP : (Tryd.prog.info? 87).map (fun i => (i.zero, i.size, i.bytes)) = some (some (.agg zP), 33, 40) := by kernel_rfl
/-- A part behind peaks that are owned. -/
theorem pushK (w : World) (base : Nat) (v : Value) (n : Nat) (xs : List Value) (s : List Nat) (k : Value) (H : Nat) (h : w.ownsRow base 87 33 v n xs) (hnew : w.heap[H]? = some (.cells (partC s k).toArray 87 (0, 0))) (hs : s.length = 32) (hk : k.oneCell' = true) (hl : n + 1 ≤ 1000000000000) (hb : base ≤ w.heap.size) :
    ∃ g cap w1, (Builtin.append_ #[81, 81] 81 #[v, .slice (some ⟨H, 0, none⟩) 1 1]).run Tryd.prog w = .ok (.slice (some ⟨g, 0, none⟩) (n + 1) cap) w1 ∧
      w1.ownsRow base 87 33 (.slice (some ⟨g, 0, none⟩) (n + 1) cap) (n + 1) (xs ++ partC s k) ∧ w.grownBy w1 v.ownBlock ∧ (v.ownBlock = some g ∨ g = w.heap.size) := by
  obtain ⟨i0, hi, hz0, hz1, hz2⟩ := info_parts Tryd.infoP
  obtain ⟨g, cap, w1, hr, hown, hgrow, hat, hlt⟩ := run_append_lies (P := Tryd.prog) w 81 81 base 87 i0 (.agg zP) 33 40 Tryd.underlying81 hi hz0 hz1 hz2 rfl (by decide)
    v n xs h ⟨H, 0, none⟩ 1 1 (partC s k) (by rw [partC_len hs]) (World.news_of_block hnew) (partC_one hk) (by decide) (by unfold maxLen; omega) (by omega) hb _ rfl
  exact ⟨g, cap, w1, hr, hown, hgrow, hat⟩
theorem wpList_pushK {ops : Array Oper} {rest : List Oper} {o : Oper} {a : Act} {Q : Exit → Act → World → Prop} (hgd : o.guard = none) (sx x : Operand)
    (ho : o.op = .call { callee := .builtin .append, args := #[sx, x], argTypes := #[81, 81] }) (hty : o.type = 81)
    (w : World) (base : Nat) (v : Value) (n : Nat) (xs : List Value) (s : List Nat) (k : Value) (H : Nat) (h : w.ownsRow base 87 33 v n xs) (hnew : w.heap[H]? = some (.cells (partC s k).toArray 87 (0, 0))) (hs : s.length = 32) (hk : k.oneCell' = true) (hl : n + 1 ≤ 1000000000000) (hb : base ≤ w.heap.size)
    (hsx : a.eval sx = v) (hx : a.eval x = .slice (some ⟨H, 0, none⟩) 1 1)
    (hK : ∀ g cap w1, Hid (w1.ownsRow base 87 33 (.slice (some ⟨g, 0, none⟩) (n + 1) cap) (n + 1) (xs ++ partC s k)) → Hid (w.grownBy w1 v.ownBlock) → Hid (v.ownBlock = some g ∨ g = w.heap.size) →
      wpList Tryd.prog ops Q rest (a.put o.dst (.slice (some ⟨g, 0, none⟩) (n + 1) cap)) w1) :
    wpList Tryd.prog ops Q (o :: rest) a w := by
  obtain ⟨g, cap, w1, hrun, h2, h3, h4⟩ := pushK w base v n xs s k H h hnew hs hk hl hb
  refine wpList_plain hgd fun K hK' => ?_
  unfold Oper.wp execOp
  simp only [ho, hty, resolve, invoke, builtin, Sem.run_bind, Sem.run_pure, Result.andThen_ok, List.map_toArray, List.map_cons, List.map_nil, hsx, hx, hrun]
  exact hK' _ _ (hK g cap w1 h2 h3 h4)
/-- A beginning of peaks that are owned is owned, with all the room behind it. -/
theorem ownsK_take {w : World} {base : Nat} {a : Option Addr} {m c : Nat} {xs : List Value} (h : w.ownsRow base 87 33 (.slice a m c) m xs) (n : Nat) (hn : n ≤ m) : w.ownsRow base 87 33 (.slice a n c) n (xs.take (n * 33)) := by
  have h0 := h.1
  refine ⟨by rw [List.length_take, h0]; exact Nat.min_eq_left (Nat.mul_le_mul_right 33 hn), ?_⟩
  rcases h.2 with ⟨h9, h1⟩ | ⟨g, cap, cur, h1, h2, h3, h4, h5, h6, h7⟩
  · cases h9
    exact .inl ⟨by rw [show n = 0 by omega], by omega⟩
  · cases h1
    refine .inr ⟨g, c, cur, rfl, h2, h3, by omega, h5, h6, ?_⟩
    rw [← h7, List.take_take, Nat.min_eq_left (Nat.mul_le_mul_right 33 hn)]

end Go.Proofs.YtbljofojeagdkaaDoor
