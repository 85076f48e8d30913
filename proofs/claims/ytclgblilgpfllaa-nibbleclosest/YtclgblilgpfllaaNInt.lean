import Derived.Test.YtclgblilgpfllaaNFn
namespace Go.Proofs.Ytclgblilgpfllaa
open Go.RowKit Go.BigFrame
set_option linter.unusedVariables false
set_option linter.unusedSimpArgs false

abbrev iv (n : Nat) : Value := .int .i64 (n : Int)
theorem iv_one (bs : List Nat) : ∀ v ∈ bs.map iv, v.oneCell' = true := by
  intro v hv; obtain ⟨x, _, rfl⟩ := List.mem_map.1 hv; rfl

theorem Try.infoI : (Try.prog.info? 3).map (fun i => (i.zero, i.size, i.bytes)) = some (some (.int .i64 0), 1, 8) := by kernel_rfl

/-- The slice value v reads as the numbers xs. -/
def RdZ (w : World) (v : Value) (xs : List Nat) : Prop :=
  ∃ (ao : Option Addr) (cap : Nat), v = .slice ao xs.length cap ∧ xs.length ≤ cap ∧ cap ≤ 9223372036854775807 ∧
    (0 < xs.length → ∃ b off, ao = some ⟨b, off, none⟩ ∧ ∀ i, i < xs.length → w.cell? ⟨b, off + i, none⟩ = some (iv (xs.getD i 0)))
theorem RdZ.old {w0 w : World} {v : Value} {xs : List Nat} (h : RdZ w0 v xs) (k : Kept [] w0 w) : RdZ w v xs := by
  obtain ⟨ao, cap, rfl, h1, h2, h3⟩ := h
  refine ⟨ao, cap, rfl, h1, h2, fun hp => ?_⟩
  obtain ⟨b, off, rfl, hc⟩ := h3 hp
  exact ⟨b, off, rfl, fun i hi => k.cell (hc i hi) (by simp)⟩
/-- Numbers in memory of their own. -/
structure OwnZ (w0 w : World) (v : Value) (xs : List Nat) : Prop where
  own : w.ownsRow w0.heap.size 3 1 v xs.length (xs.map iv)
  kept : Kept [] w0 w
theorem OwnZ.start {w0 w : World} (k : Kept [] w0 w) : OwnZ w0 w (.slice none 0 0) [] := ⟨World.ownsRow_nil _ _ _ _, k⟩
theorem OwnZ.pass {w0 w w' : World} {v : Value} {xs : List Nat} (h : OwnZ w0 w v xs) (k : Kept [] w w') : OwnZ w0 w' v xs := ⟨k.owns h.own (by simp), h.kept.trans k (by simp)⟩
theorem OwnZ.rd {w0 w : World} {v : Value} {xs : List Nat} (h : OwnZ w0 w v xs) : RdZ w v xs := by
  rcases h.own.2 with ⟨rfl, h0⟩ | ⟨g, cap, cur, rfl, _, hg, hc, hm', hs, ht⟩
  · have : xs = [] := List.eq_nil_of_length_eq_zero h0
    subst this
    exact ⟨none, 0, rfl, Nat.le_refl _, by omega, fun h => by simp at h⟩
  · refine ⟨some ⟨g, 0, none⟩, cap, rfl, hc, by unfold maxLen at hm'; omega, fun _ => ⟨g, 0, rfl, fun i hi => ?_⟩⟩
    have c1 := h.own.cells (g := g) rfl i (iv (xs.getD i 0)) (by rw [List.getElem?_map, List.getD_eq_getElem?_getD, List.getElem?_eq_getElem hi]; rfl)
    rw [Addr.add_mid] at c1
    exact c1

theorem pushZ (w : World) (base : Nat) (v : Value) (xs ys : List Nat) (H n : Nat) (h : w.ownsRow base 3 1 v xs.length (xs.map iv)) (hnew : w.heap[H]? = some (.cells (ys.map iv).toArray 3 (0, 0))) (hn : ys.length = n) (hn0 : 0 < n) (hl : xs.length + n ≤ 1000000000000) (hb : base ≤ w.heap.size) :
    ∃ g cap w1, (Builtin.append_ #[38, 38] 38 #[v, .slice (some ⟨H, 0, none⟩) n n]).run Try.prog w = .ok (.slice (some ⟨g, 0, none⟩) (xs.length + n) cap) w1 ∧
      w1.ownsRow base 3 1 (.slice (some ⟨g, 0, none⟩) (xs.length + n) cap) (xs.length + n) (xs.map iv ++ ys.map iv) ∧ w.grownBy w1 v.ownBlock := by
  obtain ⟨i0, hi, hz0, hz1, hz2⟩ := info_parts Try.infoI
  obtain ⟨g, cap, w1, hr, hown, hgrow, hat, hlt⟩ := run_append_lies (P := Try.prog) w 38 38 base 3 i0 (.int .i64 0) 1 8 Try.underlying38 hi hz0 hz1 hz2 rfl (by decide)
    v xs.length (xs.map iv) h ⟨H, 0, none⟩ n n (ys.map iv) (by simp [hn]) (World.news_of_block hnew) (iv_one ys) hn0 (by unfold maxLen; omega) (by omega) hb _ rfl
  exact ⟨g, cap, w1, hr, hown, hgrow⟩

theorem wpList_pushZ {ops : Array Oper} {rest : List Oper} {o : Oper} {a : Act} {Q : Exit → Act → World → Prop} (hgd : o.guard = none) (s x : Operand)
    (ho : o.op = .call { callee := .builtin .append, args := #[s, x], argTypes := #[38, 38] }) (hty : o.type = 38)
    (w0 w : World) (v : Value) (xs ys : List Nat) (H n : Nat) (h : OwnZ w0 w v xs) (hnew : w.heap[H]? = some (.cells (ys.map iv).toArray 3 (0, 0))) (hn : ys.length = n) (hn0 : 0 < n) (hl : xs.length + n ≤ 1000000000000)
    (hs : a.eval s = v) (hx : a.eval x = .slice (some ⟨H, 0, none⟩) n n)
    (hK : ∀ g cap w1, Hid (OwnZ w0 w1 (.slice (some ⟨g, 0, none⟩) (xs.length + n) cap) (xs ++ ys)) → wpList Try.prog ops Q rest (a.put o.dst (.slice (some ⟨g, 0, none⟩) (xs.length + n) cap)) w1) :
    wpList Try.prog ops Q (o :: rest) a w := by
  obtain ⟨g, cap, w1, hrun, h2, h3⟩ := pushZ w w0.heap.size v xs ys H n h.own hnew hn hn0 hl h.kept.size
  refine wpList_plain hgd fun K hK' => ?_
  unfold Oper.wp execOp
  simp only [ho, hty, resolve, invoke, builtin, Sem.run_bind, Sem.run_pure, Result.andThen_ok, List.map_toArray, List.map_cons, List.map_nil, hs, hx, hrun]
  refine hK' _ _ (hK g cap w1 ⟨?_, ?_⟩)
  · rw [List.map_append, List.length_append, hn]; exact h2
  · exact h.kept.grown h3 (by intro k hk; right; exact (h.own.lt k hk).1)
end Go.Proofs.Ytclgblilgpfllaa
