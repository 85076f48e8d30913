import Derived.Test.YtbbjbpjpejekgaaKApp
import Derived.Test.YtbbjbpjpejekgaaKGv
import Derived.Test.YtbbjbpjpejekgaaSAll
namespace Go.Proofs.Ytbbjbpjpejekgaa
open Go.RowKit Go.BigFrame
set_option linter.unusedVariables false
set_option linter.unusedSimpArgs false

/-- A row's append, and where it lies then. -/
theorem appVat (w : World) (base b2 : Nat) (v u : Value) (xs ys : List Value) (h : w.ownsRow base 22 1 v xs.length xs) (h2 : w.ownsRow b2 22 1 u ys.length ys) (hy : ∀ x ∈ ys, x.oneCell' = true) (hl : xs.length + ys.length ≤ 1000000000000) (hb : base ≤ w.heap.size) :
    ∃ ao' cap' w1, (Builtin.append_ #[42, 42] 42 #[v, u]).run Try.prog w = .ok (.slice ao' (xs.length + ys.length) cap') w1 ∧
      w1.ownsRow base 22 1 (.slice ao' (xs.length + ys.length) cap') (xs ++ ys).length (xs ++ ys) ∧ w.grownBy w1 v.ownBlock ∧ ((Value.slice ao' (xs.length + ys.length) cap').ownBlock = v.ownBlock ∨ (Value.slice ao' (xs.length + ys.length) cap').ownBlock = some w.heap.size) := by
  obtain ⟨i0, hi, hz0, hz1, hz2⟩ := info_parts Try.infoB
  rcases h2.2 with ⟨rfl, h0⟩ | ⟨g, cap, cur, rfl, hb2, hg, hc, hm, hs, ht⟩
  · have hys : ys = [] := List.eq_nil_of_length_eq_zero h0
    subst hys
    have hrun := run_append_owned_none (P := Try.prog) (w := w) base 42 42 22 i0 1 Try.underlying42 hi v xs.length xs h
    obtain ⟨ao', cap', rfl⟩ := owns_shapeV h
    exact ⟨ao', cap', w, hrun, by simpa using h, World.grownBy.refl _ _, .inl rfl⟩
  · obtain ⟨v', w1, hrun, hown, hgrow, _, hat⟩ := run_append_own_at (P := Try.prog) w base 42 42 22 i0 (.slice none 0 0) 1 24 Try.underlying42 hi hz0 hz1 hz2 rfl (by decide)
      v xs.length xs h ⟨g, 0, none⟩ ys.length cap ys (by simp) (fun j u hj => h2.cells (g := g) rfl j u hj) hy (by unfold maxLen; omega) (by omega) hb
    obtain ⟨ao', cap', rfl⟩ := owns_shapeV hown
    exact ⟨ao', cap', w1, hrun, by rw [List.length_append]; exact hown, hgrow, hat⟩
/-- A row of lists: the row owned, each list owned and apart from the others, and what they hold; fp: all blocks of it. -/
structure Told (base : Nat) (w : World) (tv : Value) (L : List LT) (xs : List (List Nat)) (fp : List Nat) : Prop where
  row : w.ownsRow base 22 1 tv L.length (L.map vT)
  ows : Ows base w L
  len : L.length = xs.length
  rd : ∀ i (h : i < L.length) (h' : i < xs.length), Rd w (vT L[i]) xs[i]
  fr : ∀ b, tv.ownBlock = some b → b ∈ fp
  fl : ∀ t ∈ L, ∀ b, (vT t).ownBlock = some b → b ∈ fp
theorem Told.start (base : Nat) (w : World) : Told base w (.slice none 0 0) [] [] [] := ⟨World.ownsRow_nil _ _ _ _, Ows.nil _ _, rfl, by simp, by simp [Value.ownBlock], by simp⟩
theorem Told.fpUp {base : Nat} {w : World} {tv : Value} {L : List LT} {xs : List (List Nat)} {fp fq : List Nat} (h : Told base w tv L xs fp) (hq : ∀ b ∈ fp, b ∈ fq) : Told base w tv L xs fq :=
  ⟨h.row, h.ows, h.len, h.rd, fun b hb => hq b (h.fr b hb), fun t ht b hb => hq b (h.fl t ht b hb)⟩
theorem rd_blk_own {w : World} {v : Value} {bs : List Nat} {x : Nat} (hx : x ∈ blk v) : v.ownBlock = some x := by
  cases v with
  | slice a n c => cases a with
    | none => simp [blk] at hx
    | some a => simp [blk] at hx; subst hx; rfl
  | _ => simp [blk] at hx
theorem Told.pass {base : Nat} {M : List Nat} {w w' : World} {tv : Value} {L : List LT} {xs : List (List Nat)} {fp : List Nat} (h : Told base w tv L xs fp) (k : Kept M w w') (hM : ∀ b ∈ M, b ∉ fp) : Told base w' tv L xs fp :=
  ⟨k.owns h.row (fun b hb hm => hM b hm (h.fr b hb)), ⟨fun t ht => (h.ows.own t ht).pass k (fun b hb hm => hM b hm (h.fl t ht b hb)), h.ows.ap, h.ows.lo⟩, h.len,
    fun i hi hi' => (h.rd i hi hi').kept k (fun x hx hm => hM x hm (h.fl _ (List.getElem_mem hi) x (rd_blk_own (w := w) (bs := xs[i]) hx))), h.fr, h.fl⟩
theorem Told.rdl {base : Nat} {w : World} {tv : Value} {L : List LT} {xs : List (List Nat)} {fp : List Nat} (h : Told base w tv L xs fp) : RdL w tv xs := by
  have hrd : ∀ j, j < L.length → Rd w ((L.map vT).getD j undef) (xs.getD j []) := fun j hj => by
    have h9 := h.rd j hj (by rw [← h.len]; exact hj)
    have hj' : j < xs.length := by rw [← h.len]; exact hj
    simpa [List.getD_eq_getElem?_getD, hj, hj'] using h9
  rcases h.row.2 with ⟨rfl, h0⟩ | ⟨g, cap, cur, rfl, _, hg, hc, hm', hs, ht⟩
  · have e : L = [] := List.eq_nil_of_length_eq_zero h0
    subst e
    have e2 : xs = [] := List.eq_nil_of_length_eq_zero (by rw [← h.len]; rfl)
    subst e2
    exact ⟨none, 0, 0, [], rfl, rfl, rfl, Nat.le_refl _, by omega, fun h => by omega, fun i h => by omega⟩
  · refine ⟨_, _, _, L.map vT, rfl, by simp, h.len.symm, hc, by unfold maxLen at hm'; omega, fun _ => ⟨g, 0, rfl, fun j hj => ?_⟩, hrd⟩
    have := h.row.cells (g := g) rfl j ((L.map vT).getD j undef) (by rw [List.getD_eq_getElem?_getD, List.getElem?_eq_getElem (by simpa using hj)]; rfl)
    rw [Addr.add_mid] at this; exact this
/-- The world behind an append to its row. -/
theorem Told.push {base : Nat} {w W : World} {tv : Value} {L N : List LT} {xs ys : List (List Nat)} {fp : List Nat} (h : Told base w tv L xs fp) (hn : Ows base w N) (hl : N.length = ys.length) (hr : ∀ i (h : i < N.length) (h' : i < ys.length), Rd w (vT N[i]) ys[i])
    (hd : ∀ t ∈ N, ∀ b, (vT t).ownBlock = some b → b ∉ fp) {tv' : Value} {n : Nat} (hnl : n = L.length + N.length) (o : W.ownsRow base 22 1 tv' n (L.map vT ++ N.map vT)) (gr : w.grownBy W tv.ownBlock) (hat : tv'.ownBlock = tv.ownBlock ∨ tv'.ownBlock = some w.heap.size) :
    Told base W tv' (L ++ N) (xs ++ ys) (tv'.ownBlock.toList ++ (blks N ++ fp)) := by
  have kW : Kept tv.ownBlock.toList w W := (Kept.refl _ w).grown gr (by intro k hk; left; simp [hk])
  have hne : ∀ t ∈ L ++ N, ∀ b, (vT t).ownBlock = some b → b ∉ tv.ownBlock.toList := by
    intro t ht b hb hm
    have hown : OwT w t := by
      rcases List.mem_append.1 ht with ht | ht
      · exact h.ows.own t ht
      · exact hn.own t ht
    obtain ⟨zs, h9⟩ := hown
    exact owns_ne h9 h.row (by decide) b hb (by simpa using hm)
  subst hnl
  refine ⟨by rw [List.length_append, List.map_append]; exact o, ⟨fun t ht => ?_, ?_, fun t ht => ?_⟩, by rw [List.length_append, List.length_append, h.len, hl], fun i hi hi' => ?_, fun b hb => ?_, fun t ht b hb => ?_⟩
  · have hown : OwT w t := by
      rcases List.mem_append.1 ht with ht | ht
      · exact h.ows.own t ht
      · exact hn.own t ht
    exact hown.pass kW (hne t ht)
  · rw [List.pairwise_append]
    exact ⟨h.ows.ap, hn.ap, fun s hs t ht b hb1 hb2 => hd t ht b hb2 (h.fl s hs b hb1)⟩
  · rcases List.mem_append.1 ht with ht | ht
    · exact h.ows.lo t ht
    · exact hn.lo t ht
  · have hrd : Rd w (vT (L ++ N)[i]) (xs ++ ys)[i] := by
      by_cases h1 : i < L.length
      · rw [List.getElem_append_left h1, List.getElem_append_left (by rw [← h.len]; exact h1)]
        exact h.rd i h1 _
      · rw [List.getElem_append_right (by omega), List.getElem_append_right (by rw [← h.len]; omega)]
        have e : i - xs.length = i - L.length := by rw [h.len]
        simp only [e]
        rw [List.length_append] at hi hi'
        exact hr (i - L.length) (by omega) (by have := h.len; omega)
    exact hrd.kept kW (fun x hx hm => hne _ (List.getElem_mem hi) x (rd_blk_own (w := w) (bs := (xs ++ ys)[i]) hx) hm)
  · exact List.mem_append_left _ (by simp [hb])
  · rcases List.mem_append.1 ht with ht | ht
    · exact List.mem_append_right _ (List.mem_append_right _ (h.fl t ht b hb))
    · refine List.mem_append_right _ (List.mem_append_left _ ?_)
      unfold blks
      rw [List.mem_flatMap]
      exact ⟨t, ht, by rw [hb]; simp⟩
theorem Told.lt {base : Nat} {w : World} {tv : Value} {L : List LT} {xs : List (List Nat)} {fp : List Nat} (h : Told base w tv L xs fp) : ∀ t ∈ L, ∀ b, (vT t).ownBlock = some b → b < w.heap.size := fun t ht b hb => (h.ows.own t ht).lt hb
/-- A literal row of two lists. -/
theorem lit2_own (w : World) (x y : Value) : (w.alloc (.cells #[x, y] 22)).ownsRow w.heap.size 22 1 (.slice (some ⟨w.heap.size, 0, none⟩) 2 2) [x, y].length [x, y] :=
  ⟨rfl, .inr ⟨w.heap.size, 2, #[x, y], rfl, Nat.le_refl _, heap_alloc_new _ _, Nat.le_refl _, by decide, rfl, rfl⟩⟩
theorem lit1_own (w : World) (x : Value) : (w.alloc (.cells #[x] 22)).ownsRow w.heap.size 22 1 (.slice (some ⟨w.heap.size, 0, none⟩) 1 1) [x].length [x] :=
  ⟨rfl, .inr ⟨w.heap.size, 1, #[x], rfl, Nat.le_refl _, heap_alloc_new _ _, Nat.le_refl _, by decide, rfl, rfl⟩⟩
/-- Append of two lists to the row, for the walk. -/
theorem wpList_told2 {ops : Array Oper} {rest : List Oper} {o : Oper} {a : Act} {Q : Exit → Act → World → Prop} (hgd : o.guard = none) (s x : Operand)
    (ho : o.op = .call { callee := .builtin .append, args := #[s, x], argTypes := #[42, 42] }) (hty : o.type = 42)
    (w : World) (base : Nat) (tv : Value) (L : List LT) (xs : List (List Nat)) (fp : List Nat) (t1 t2 : LT) (y1 y2 : List Nat)
    (h : Told base w tv L xs fp) (o1 : Ows base w [t1, t2]) (r1 : Rd w (vT t1) y1) (r2 : Rd w (vT t2) y2) (hd : ∀ b, (vT t1).ownBlock = some b ∨ (vT t2).ownBlock = some b → b ∉ fp) (hl : L.length ≤ 100000000) (hb : base ≤ w.heap.size)
    (hs : a.eval s = tv) (hx : a.eval x = .slice (some ⟨w.heap.size, 0, none⟩) 2 2)
    (hK : ∀ ao' cap' w1, Hid (Told base w1 (.slice ao' (L.length + 2) cap') (L ++ [t1, t2]) (xs ++ [y1, y2]) ((Value.slice ao' (L.length + 2) cap').ownBlock.toList ++ (blks [t1, t2] ++ fp))) → Hid ((w.alloc (.cells #[vT t1, vT t2] 22)).grownBy w1 tv.ownBlock) → Hid ((Value.slice ao' (L.length + 2) cap').ownBlock = tv.ownBlock ∨ (Value.slice ao' (L.length + 2) cap').ownBlock = some (w.heap.size + 1)) → wpList Try.prog ops Q rest (a.put o.dst (.slice ao' (L.length + 2) cap')) w1) :
    wpList Try.prog ops Q (o :: rest) a (w.alloc (.cells #[vT t1, vT t2] 22)) := by
  have kA : Kept [] w (w.alloc (.cells #[vT t1, vT t2] 22)) := (Kept.refl [] w).alloc _
  have hA := h.pass kA (by simp)
  obtain ⟨ao', cap', w1, hrun, h3, h4, h5⟩ := appVat (w.alloc (.cells #[vT t1, vT t2] 22)) base w.heap.size tv _ (L.map vT) [vT t1, vT t2] (by rw [List.length_map]; exact hA.row) (lit2_own w _ _) (by intro z hz; simp at hz; rcases hz with rfl | rfl <;> rfl) (by rw [List.length_map]; simp; omega) (by simp; omega)
  refine wpList_plain hgd fun K hK' => ?_
  unfold Oper.wp execOp
  rw [List.length_map] at hrun h3 h5
  simp only [ho, hty, resolve, invoke, builtin, Sem.run_bind, Sem.run_pure, Result.andThen_ok, List.map_toArray, List.map_cons, List.map_nil, hs, hx, hrun]
  refine hK' _ _ (hK ao' cap' w1 ?_ h4 (by rw [show (w.alloc (.cells #[vT t1, vT t2] 22)).heap.size = w.heap.size + 1 by simp] at h5; exact h5))
  exact hA.push (N := [t1, t2]) (ys := [y1, y2]) (o1.pass kA (by simp)) rfl (by
    intro i hi hi'
    have : i = 0 ∨ i = 1 := by simp at hi; omega
    rcases this with rfl | rfl
    · exact r1.old kA (by simp)
    · exact r2.old kA (by simp)) (by
    intro t ht b hb
    simp only [List.mem_cons, List.not_mem_nil, or_false] at ht
    rcases ht with rfl | rfl
    · exact hd b (.inl hb)
    · exact hd b (.inr hb)) rfl (by rw [List.length_append, List.length_map] at h3; exact h3) h4 h5
theorem Ows.growT {base b1 : Nat} {w w' : World} {L : List LT} {v : Value} {n : Nat} {xs : List Value} (h : Ows base w L) (ho : w.ownsRow b1 22 1 v n xs) (g : w.grownBy w' v.ownBlock) : Ows base w' L := by
  have kk : Kept v.ownBlock.toList w w' := (Kept.refl _ w).grown g (by intro k hk; left; simp [hk])
  exact ⟨fun t ht => (h.own t ht).pass kk (fun b hb hm => by obtain ⟨ys, h9⟩ := h.own t ht; exact owns_ne h9 ho (by decide) b hb (by simpa using hm)), h.ap, h.lo⟩
/-- Append of one list to a row, behind a guard. -/
theorem wpList_app1G {ops : Array Oper} {rest : List Oper} {o : Oper} {a : Act} {Q : Exit → Act → World → Prop} (hw : Region.wanted o (yielded ops a.tmps) = true) (s x : Operand)
    (ho : o.op = .call { callee := .builtin .append, args := #[s, x], argTypes := #[42, 42] }) (hty : o.type = 42)
    (w : World) (base : Nat) (tv : Value) (L : List LT) (t1 : LT) (h : w.ownsRow base 22 1 tv L.length (L.map vT)) (hl : L.length ≤ 100000000) (hb : base ≤ w.heap.size)
    (hs : a.eval s = tv) (hx : a.eval x = .slice (some ⟨w.heap.size, 0, none⟩) 1 1)
    (hK : ∀ ao' cap' w1, Hid (w1.ownsRow base 22 1 (.slice ao' (L.length + 1) cap') (L ++ [t1]).length ((L ++ [t1]).map vT)) → Hid ((w.alloc (.cells #[vT t1] 22)).grownBy w1 tv.ownBlock) → wpList Try.prog ops Q rest (a.put o.dst (.slice ao' (L.length + 1) cap')) w1) :
    wpList Try.prog ops Q (o :: rest) a (w.alloc (.cells #[vT t1] 22)) := by
  have kA : Kept [] w (w.alloc (.cells #[vT t1] 22)) := (Kept.refl [] w).alloc _
  obtain ⟨ao', cap', w1, hrun, h3, h4, h5⟩ := appVat (w.alloc (.cells #[vT t1] 22)) base w.heap.size tv _ (L.map vT) [vT t1] (by rw [List.length_map]; exact kA.owns h (by simp)) (lit1_own w _) (by intro z hz; simp at hz; subst hz; rfl) (by rw [List.length_map]; simp; omega) (by simp; omega)
  refine wpList_want hw fun K hK' => ?_
  unfold Oper.wp execOp
  rw [List.length_map] at hrun h3 h5
  simp only [ho, hty, resolve, invoke, builtin, Sem.run_bind, Sem.run_pure, Result.andThen_ok, List.map_toArray, List.map_cons, List.map_nil, hs, hx, hrun]
  refine hK' _ _ (hK ao' cap' w1 ?_ h4)
  rw [List.length_append, List.length_map] at h3
  rw [List.length_append, List.map_append]
  exact h3
theorem ows_pair {base g1 g2 n1 n2 : Nat} {w : World} {cs1 bs : List Nat} (h1 : w.heap[g1]? = some (.cells (cs1.map u8).toArray 5 (0, 0))) (h2 : w.heap[g2]? = some (.cells (bs.map u8).toArray 5 (0, 0))) (hn1 : cs1.length = n1) (hn2 : bs.length = n2) (hl1 : n1 ≤ 140737488355328) (hl2 : n2 ≤ 140737488355328) (hne : g1 ≠ g2) (hb1 : base ≤ g1) (hb2 : base ≤ g2) : Ows base w [(some ⟨g1, 0, none⟩, n1, n1), (some ⟨g2, 0, none⟩, n2, n2)] := by
  subst hn1
  subst hn2
  have ow : ∀ (cs : List Nat) g, cs.length ≤ 140737488355328 → w.heap[g]? = some (.cells (cs.map u8).toArray 5 (0, 0)) → OwT w (some ⟨g, 0, none⟩, cs.length, cs.length) := fun cs g hl hg =>
    ⟨cs.map u8, by simp, .inr ⟨g, cs.length, _, rfl, Nat.zero_le _, hg, Nat.le_refl _, by unfold maxLen; omega, by simp, by simp [List.take_of_length_le]⟩⟩
  refine ⟨?_, ?_, ?_⟩
  · intro t ht
    simp only [List.mem_cons, List.not_mem_nil, or_false] at ht
    rcases ht with rfl | rfl
    · exact ow cs1 g1 hl1 h1
    · exact ow bs g2 hl2 h2
  · simp only [List.pairwise_cons, List.mem_singleton, List.not_mem_nil, false_implies, implies_true, List.Pairwise.nil, and_true]
    intro t ht b hb1 hb2
    subst ht
    simp only [vT, Value.ownBlock, Option.some.injEq] at hb1 hb2
    omega
  · intro t ht b hb
    simp only [List.mem_cons, List.not_mem_nil, or_false] at ht
    rcases ht with rfl | rfl <;> simp only [vT, Value.ownBlock, Option.some.injEq] at hb <;> omega
end Go.Proofs.Ytbbjbpjpejekgaa
