import Derived.Test.YtbljofojeagdkaaDoorMPM
import Derived.Test.YtbljofojeagdkaaDoorMSplit
namespace Go.Proofs.YtbljofojeagdkaaDoor
open Go.RowKit Go.BigFrame
set_option linter.unusedVariables false
set_option linter.unusedSimpArgs false

theorem wrM (y : Int) : IntKind.u64.wrap y = y % 18446744073709551616 := by simp [IntKind.wrap, IntKind.signed, IntKind.bits]

set_option maxRecDepth 100000 in
set_option maxHeartbeats 1000000 in
theorem msplit_any (lo hi : Nat) (w : World) (h2 : 2 ≤ hi - lo) (hn : hi < 18446744073709551616) :
    Calls Tryd.prog 58 #[.int .u64 lo, .int .u64 hi] w fun e w' => e = .returned (.int .u64 ((lo + belT (hi - lo) : Nat) : Int)) ∧ Kept [] w w' := by
  obtain ⟨n, hn1⟩ : ∃ n, hi - lo = n := ⟨_, rfl⟩
  rw [hn1] at h2 ⊢
  have hb := bitLen_log (n - 1) (by omega) (by omega)
  have hl : (n - 1).log2 < 64 := (Nat.log2_lt (by omega)).2 (by omega)
  have hlt := belT_lt h2
  obtain ⟨S, hS⟩ : ∃ S, belT n = S := ⟨_, rfl⟩
  rw [hS] at hlt ⊢
  unfold belT at hS
  have hsub : IntKind.u64.wrap ((hi : Int) - (lo : Int)) = (n : Int) := by rw [wrM]; omega
  have hsub1 : IntKind.u64.wrap ((n : Int) - 1) = ((n - 1 : Nat) : Int) := by rw [wrM]; omega
  have hadd : IntKind.u64.wrap ((lo : Int) + (S : Int)) = ((lo + S : Nat) : Int) := by rw [wrM]; omega
  have HLE := hide (len64_any (n - 1) w (by omega))
  rw [hb] at HLE
  obtain ⟨m, hm⟩ : ∃ m, (n - 1).log2 = m := ⟨_, rfl⟩
  rw [hm] at hl HLE hS
  obtain ⟨n1, hn2⟩ : ∃ n1, n - 1 = n1 := ⟨_, rfl⟩
  rw [hn2] at hsub1 HLE
  obtain ⟨T, hT⟩ : ∃ T, lo + S = T := ⟨_, rfl⟩
  rw [hT] at hadd ⊢
  clear hm hb hn1 hn2 hT h2 hlt hn
  have HP := hide hS
  have q2 : wrap64 (((m + 1 : Nat) : Int) - 1) = (m : Int) := by unfold wrap64; omega
  clear hS
  go_enter Tryd.func58, Tryd.ntmps58
  go_wp2_with (first | simp only [hsub] | simp only [hsub1])
  refine (unhide HLE).mono ?_
  rintro e w1 ⟨rfl, k1⟩
  have HK1 := hide k1
  clear k1
  go_wp2_with (first | simp only [hadd] | (refine wpList_shl1 rfl 24 3 (.tmp 11) rfl m hl (by simp [Act.eval, q2]) ?_; rw [unhide HP]))
  go_ret
  exact ⟨rfl, unhide HK1⟩

theorem wp_callD {o : Oper} {a : Act} {w : World} {K : Act → World → Prop} {Q : Exit → Act → World → Prop} {f : FuncId} {c : Operand} {xs : Array Operand} {ts : Array TypeId} (ho : o.op = .call { callee := .value c, args := xs, argTypes := ts })
    (cap : Array Value) (hc0 : a.eval c = .func (.func f) #[] cap)
    (hcl : ∀ args W, (callFunc f args).run Tryd.prog W = .ok (.enter f args) W) (us : List Value) (he : xs.toList.map a.eval = us) {R : Ending → World → Prop}
    (hc : Calls Tryd.prog f (us.toArray ++ cap) w R) (h : ∀ e w', R e w' → ∃ v, e = .returned v ∧ K (a.put o.dst v) w') : o.wp Tryd.prog a w K Q := by
  have he2 : xs.map a.eval = us.toArray := by rw [← he]; cases xs; simp only [List.map_toArray]
  unfold Oper.wp execOp
  simp only [ho]
  simp only [resolve, invoke, hc0, he2, Sem.run_bind, Sem.run_pure, Result.andThen_ok, hcl]
  simp [Deferred.ofValue, hcl, go_sem]
  refine hc.mono ?_
  intro e w2 h2
  obtain ⟨v, rfl, h3⟩ := h e w2 h2
  exact h3

def cellsS (ss : List (Nat × Nat)) : List Value := ss.flatMap fun s => [.int .u64 (s.1 : Int), .int .u64 (s.2 : Int)]
theorem cellsS_app (a b : List (Nat × Nat)) : cellsS (a ++ b) = cellsS a ++ cellsS b := by simp [cellsS]
theorem cellsS_get : ∀ (ss : List (Nat × Nat)) (i : Nat) (h : i < ss.length), (cellsS ss)[2 * i]? = some (.int .u64 (ss[i].1 : Int)) ∧ (cellsS ss)[2 * i + 1]? = some (.int .u64 (ss[i].2 : Int))
  | [], i, h => by simp at h
  | s :: r, 0, h => ⟨rfl, rfl⟩
  | s :: r, i + 1, h => by
    have := cellsS_get r i (by simpa using h)
    have e : cellsS (s :: r) = [.int .u64 (s.1 : Int), .int .u64 (s.2 : Int)] ++ cellsS r := by simp [cellsS]
    rw [e, show 2 * (i + 1) = 2 + 2 * i by omega, show 2 + 2 * i + 1 = 2 + (2 * i + 1) by omega]
    rw [List.getElem?_append_right (by simp), List.getElem?_append_right (by simp)]
    simpa [Nat.add_sub_cancel_left] using this
theorem Tryd.infoS : (Tryd.prog.info? 101).map (fun i => (i.zero, i.size, i.bytes)) = some (some (.agg #[.int .u64 0, .int .u64 0]), 2, 16) := by kernel_rfl
/-- One range more. -/
theorem pushSp (w : World) (base : Nat) (v : Value) (ss : List (Nat × Nat)) (x y : Nat) (H : Nat) (h : w.ownsRow base 101 2 v ss.length (cellsS ss)) (hnew : w.heap[H]? = some (.cells #[.int .u64 (x : Int), .int .u64 (y : Int)] 101 (0, 0))) (hl : ss.length + 1 ≤ 1000000000000) (hb : base ≤ w.heap.size) :
    ∃ g cap w1, (Builtin.append_ #[74, 74] 74 #[v, .slice (some ⟨H, 0, none⟩) 1 1]).run Tryd.prog w = .ok (.slice (some ⟨g, 0, none⟩) (ss.length + 1) cap) w1 ∧
      w1.ownsRow base 101 2 (.slice (some ⟨g, 0, none⟩) (ss.length + 1) cap) (ss ++ [(x, y)]).length (cellsS (ss ++ [(x, y)])) ∧ w.grownBy w1 v.ownBlock := by
  obtain ⟨i0, hi, hz0, hz1, hz2⟩ := info_parts Tryd.infoS
  obtain ⟨g, cap, w1, hr, hown, hgrow, hat, hlt⟩ := run_append_lies (P := Tryd.prog) w 74 74 base 101 i0 (.agg #[.int .u64 0, .int .u64 0]) 2 16 Tryd.underlying74 hi hz0 hz1 hz2 rfl (by decide)
    v ss.length (cellsS ss) h ⟨H, 0, none⟩ 1 1 [.int .u64 (x : Int), .int .u64 (y : Int)] rfl (World.news_of_block hnew) (by intro u hu; simp at hu; rcases hu with rfl | rfl <;> rfl) (by decide) (by unfold maxLen; omega) (by omega) hb _ rfl
  refine ⟨g, cap, w1, hr, ?_, hgrow⟩
  rw [cellsS_app, List.length_append]
  exact hown
theorem wpList_pushSp {ops : Array Oper} {rest : List Oper} {o : Oper} {a : Act} {Q : Exit → Act → World → Prop} (hgd : o.guard = none) (s x : Operand)
    (ho : o.op = .call { callee := .builtin .append, args := #[s, x], argTypes := #[74, 74] }) (hty : o.type = 74)
    (w : World) (base : Nat) (v : Value) (ss : List (Nat × Nat)) (p q : Nat) (H : Nat) (h : w.ownsRow base 101 2 v ss.length (cellsS ss)) (hnew : w.heap[H]? = some (.cells #[.int .u64 (p : Int), .int .u64 (q : Int)] 101 (0, 0))) (hl : ss.length + 1 ≤ 1000000000000) (hb : base ≤ w.heap.size)
    (hs : a.eval s = v) (hx : a.eval x = .slice (some ⟨H, 0, none⟩) 1 1)
    (hK : ∀ g cap w1, Hid (w1.ownsRow base 101 2 (.slice (some ⟨g, 0, none⟩) (ss.length + 1) cap) (ss ++ [(p, q)]).length (cellsS (ss ++ [(p, q)]))) → Hid (w.grownBy w1 v.ownBlock) →
      wpList Tryd.prog ops Q rest (a.put o.dst (.slice (some ⟨g, 0, none⟩) (ss.length + 1) cap)) w1) :
    wpList Tryd.prog ops Q (o :: rest) a w := by
  obtain ⟨g, cap, w1, hrun, h2, h3⟩ := pushSp w base v ss p q H h hnew hl hb
  refine wpList_plain hgd fun K hK' => ?_
  unfold Oper.wp execOp
  simp only [ho, hty, resolve, invoke, builtin, Sem.run_bind, Sem.run_pure, Result.andThen_ok, List.map_toArray, List.map_cons, List.map_nil, hs, hx, hrun]
  exact hK' _ _ (hK g cap w1 h2 h3)

/-- The list of ranges behind a captured variable. -/
structure Lst (W0 : World) (bl : Nat) (ss : List (Nat × Nat)) (w : World) (v : Value) : Prop where
  kept : Kept [bl] W0 w
  row : w.heap[bl]? = some (.cells #[v] 74 (0, 0))
  own : w.ownsRow W0.heap.size 101 2 v ss.length (cellsS ss)
  lt : bl < W0.heap.size
theorem Lst.old {W0 w w' : World} {bl : Nat} {ss : List (Nat × Nat)} {v : Value} (h : Lst W0 bl ss w v) (k : Kept [] w w') : Lst W0 bl ss w' v :=
  ⟨h.kept.trans k (by simp), k.heap h.row (by simp), k.owns h.own (by simp), h.lt⟩
theorem Lst.push {W0 w w1 : World} {bl : Nat} {ss : List (Nat × Nat)} {v u : Value} {x y : Nat} (h : Lst W0 bl ss w v) {ss' : List (Nat × Nat)} (own : w1.ownsRow W0.heap.size 101 2 u ss'.length (cellsS ss')) (gr : w.grownBy w1 v.ownBlock) :
    Lst W0 bl ss' (w1.setCell ⟨bl, 0, none⟩ u) u ∧ w1.cell? ⟨bl, 0, none⟩ = some v ∧ w1.heap[bl]? = some (.cells #[v] 74 (0, 0)) := by
  have hv : ∀ k, v.ownBlock = some k → k ≠ bl := by
    intro k hk e
    have := (h.own.lt k hk).1
    have := h.lt
    omega
  have k1 : Kept v.ownBlock.toList w w1 := (Kept.refl _ w).grown gr (by intro k hk; left; simp [hk])
  have r1 : w1.heap[bl]? = some (.cells #[v] 74 (0, 0)) := k1.heap h.row (by intro hm; simp at hm; exact hv bl hm rfl)
  have k3 : Kept [bl] W0 w1 := h.kept.grown gr (by intro k hk; right; exact (h.own.lt k hk).1)
  have k4 := (Kept.refl [bl] w1).setCell (p := ⟨bl, 0, none⟩) (Or.inl (by simp)) u
  refine ⟨⟨k3.setCell (p := ⟨bl, 0, none⟩) (Or.inl (by simp)) u, ?_, ?_, h.lt⟩, ?_, r1⟩
  · have h9 := heap_setCell_same w1 bl 0 _ 74 u r1
    simpa using h9
  · refine k4.owns own ?_
    intro k hk
    have := (own.lt k hk).1
    have := h.lt
    simp
    omega
  · have h9 := cell_of_row _ _ 0 _ _ _ r1
    simpa using h9
end Go.Proofs.YtbljofojeagdkaaDoor
