import Derived.Test.YtckkalmhekfnhabGreatDoorTopB
import Derived.Test.YtckkalmhekfnhabGreatDoorTopA
import Derived.Test.YtckkalmhekfnhabGreatDoorESameB
import Derived.Test.YtckkalmhekfnhabGreatDoorQMid
import Derived.Test.YtckkalmhekfnhabGreatDoorEFits
import Derived.Test.YtckkalmhekfnhabGreatDoorSNum
import Derived.Test.YtckkalmhekfnhabGreatDoorRWide
import Derived.Test.YtckkalmhekfnhabGreatDoorRowz
import Derived.Deep.RegionHeld3
namespace Go.Proofs.YtckkalmhekfnhabGreatDoor
open Go.RowKit Go.BigFrame
set_option linter.unusedVariables false
set_option linter.unusedSimpArgs false

theorem results_cell_tmp {P : Program} {fn : Func} {p q : Tmp} {ty : TypeId} (h : fn.results = #[.cell p ty, .tmp q]) (tmps : Array Value) (w : World) (g : Nat) (t : TypeId) (cs : Array Value) (fr : Nat × Nat) (d : TypeDesc)
    (hp : tmps.getD p undef = .pointer (some ⟨g, 0, none⟩)) (hg : w.heap[g]? = some (.cells cs t fr))
    (hu : P.underlying ty = some d) (hd : (match d with | .struct _ | .array _ _ => true | _ => false) = true) (hi : (P.info? ty).map (·.size) = some cs.size) (v : Value) (hq : tmps.getD q undef = v) :
    (results fn tmps).run P w = .ok (.tuple #[.agg cs, v]) w := by
  have hp' : tmps[p]?.getD undef = .pointer (some ⟨g, 0, none⟩) := by simpa using hp
  have hq' : tmps[q]?.getD undef = v := by simpa using hq
  simp [results, h, hp', hq', asAddr, run_loadVar_row w g t ty cs fr d hg hu hd hi]
/-- What a batch reads stays, whatever turns outside its own memory. -/
theorem NewN.stay {B : Nat} {M : List Nat} {w w' : World} {v : Value} {es : List En} (h : NewN B w v es) (k : Kept M w w') (hM : ∀ x ∈ M, x < B ∨ w.heap.size ≤ x) : RdN w' v es := by
  have k2 : Kept (M.filter (· < B)) w w' := ⟨k.os, k.tape, k.output, k.size, fun j hj hn => k.block j hj (fun hm => hn (by
    rw [List.mem_filter]
    refine ⟨hm, ?_⟩
    have := hM j hm
    simp; omega))⟩
  exact (h.kept k2 (fun x hx => by rw [List.mem_filter] at hx; simpa using hx.2)).rdN
/-- The cells of batches. -/
def cellsB (ts : List (Nat × Value × List En)) : List Value := ts.flatMap fun t => [.int .u64 (t.1 : Int), t.2.1]
theorem cellsB_app (ts : List (Nat × Value × List En)) (t : Nat × Value × List En) : cellsB (ts ++ [t]) = cellsB ts ++ [.int .u64 (t.1 : Int), t.2.1] := by simp [cellsB]
theorem cellsB_get : ∀ (ts : List (Nat × Value × List En)) (i : Nat) (h : i < ts.length), (cellsB ts)[2 * i]? = some (.int .u64 (ts[i].1 : Int)) ∧ (cellsB ts)[2 * i + 1]? = some ts[i].2.1
  | t :: r, 0, _ => by simp [cellsB]
  | t :: r, i + 1, h => by
    have h' : i < r.length := by simpa using h
    have := cellsB_get r i h'
    have e : cellsB (t :: r) = (.int .u64 (t.1 : Int)) :: t.2.1 :: cellsB r := by simp [cellsB]
    rw [e, show 2 * (i + 1) = 2 * i + 1 + 1 by omega]
    simpa using this
theorem Tryz.infoBt : (Tryz.prog.info? 37).map (fun i => (i.zero, i.size, i.bytes)) = some (some (.agg #[.int .u64 0, .slice none 0 0]), 2, 32) := by kernel_rfl
/-- Batches that are owned, each with memory of its own. -/
structure OwnB (w0 w : World) (v : Value) (ts : List (Nat × Value × List En)) : Prop where
  own : w.ownsRow w0.heap.size 37 2 v ts.length (cellsB ts)
  rd : ∀ t ∈ ts, ∃ B C, C ≤ w.heap.size ∧ w0.heap.size ≤ B ∧ (∀ b, v.ownBlock = some b → b < B ∨ C ≤ b) ∧ ∀ M w', Kept M w w' → (∀ x ∈ M, x < B ∨ C ≤ x) → RdN w' t.2.1 t.2.2
  sz : w0.heap.size ≤ w.heap.size
/-- The slice value v reads as these batches. -/
def RdB (w : World) (v : Value) (bs : List (Nat × List En)) : Prop :=
  ∃ (ao : Option Addr) (cap : Nat) (ts : List (Nat × Value × List En)), v = .slice ao ts.length cap ∧ bs = ts.map (fun t => (t.1, t.2.2)) ∧ ts.length ≤ cap ∧ cap ≤ 9223372036854775807 ∧ (∀ t ∈ ts, RdN w t.2.1 t.2.2) ∧
    (0 < ts.length → ∃ b off, ao = some ⟨b, off, none⟩ ∧ ∀ i (h : i < ts.length), w.cell? ⟨b, off + i * 2, none⟩ = some (.int .u64 (ts[i].1 : Int)) ∧ w.cell? ⟨b, off + i * 2 + 1, none⟩ = some ts[i].2.1)
theorem RdB.old {w w' : World} {v : Value} {fs : List (Nat × List En)} (h : RdB w v fs) (k : Kept [] w w') : RdB w' v fs := by
  obtain ⟨ao, cap, ts, h1, h2, h3, h4, h5, h6⟩ := h
  refine ⟨ao, cap, ts, h1, h2, h3, h4, fun t ht => (h5 t ht).old k, fun hp => ?_⟩
  obtain ⟨b, off, e, hc⟩ := h6 hp
  exact ⟨b, off, e, fun i hi => ⟨k.cell (hc i hi).1 (by simp), k.cell (hc i hi).2 (by simp)⟩⟩
theorem RdB.nil (w : World) : RdB w (.slice none 0 0) [] := ⟨none, 0, [], rfl, rfl, Nat.le_refl _, by omega, by simp, fun h => by simp at h⟩
theorem OwnB.start (w : World) : OwnB w w (.slice none 0 0) [] := ⟨World.ownsRow_nil _ _ _ _, by simp, Nat.le_refl _⟩
theorem OwnB.rdB {w0 w : World} {v : Value} {ts : List (Nat × Value × List En)} (h : OwnB w0 w v ts) : RdB w v (ts.map fun t => (t.1, t.2.2)) := by
  have hr : ∀ t ∈ ts, RdN w t.2.1 t.2.2 := fun t ht => by obtain ⟨B, C, _, _, _, h5⟩ := h.rd t ht; exact h5 [] w (Kept.refl _ _) (by simp)
  rcases h.own.2 with ⟨rfl, h0⟩ | ⟨g, cap, cur, rfl, _, hg, hc, hm', hs, ht⟩
  · have : ts = [] := List.eq_nil_of_length_eq_zero h0
    subst this
    exact RdB.nil _
  · refine ⟨some ⟨g, 0, none⟩, cap, ts, rfl, rfl, hc, by unfold maxLen at hm'; omega, hr, fun _ => ⟨g, 0, rfl, fun i hi => ?_⟩⟩
    have hx := cellsB_get ts i hi
    have c1 := h.own.cells (g := g) rfl (2 * i) _ hx.1
    have c2 := h.own.cells (g := g) rfl (2 * i + 1) _ hx.2
    rw [Addr.add_mid] at c1 c2
    refine ⟨?_, ?_⟩
    · rw [show 0 + i * 2 = 0 + 2 * i by omega]; exact c1
    · rw [show 0 + i * 2 + 1 = 0 + (2 * i + 1) by omega]; exact c2
theorem OwnB.pass {w0 w w' : World} {M : List Nat} {v : Value} {ts : List (Nat × Value × List En)} (h : OwnB w0 w v ts) (k : Kept M w w') (hM : ∀ x ∈ M, x < w0.heap.size) : OwnB w0 w' v ts := by
  refine ⟨k.owns h.own (fun b hb hm => by have := (h.own.lt b hb).1; have := hM b hm; omega), fun t ht => ?_, Nat.le_trans h.sz k.size⟩
  obtain ⟨B, C, h1, h2, h3, h4⟩ := h.rd t ht
  refine ⟨B, C, Nat.le_trans h1 k.size, h2, h3, fun N w2 kN hN => h4 (M ++ N) w2 ((k.mono (M := M ++ N) (fun x hx => by simp [hx])).trans kN (fun x hx => Or.inl (by simp [hx]))) (fun x hx => ?_)⟩
  rcases List.mem_append.1 hx with hx | hx
  · have := hM x hx; omega
  · exact hN x hx
theorem OwnB.push {w0 w W : World} {v : Value} {ts : List (Nat × Value × List En)} (h : OwnB w0 w v ts) {pl B : Nat} {y : Value} {es : List En} (hy : NewN B w y es) (hB : w0.heap.size ≤ B) (hBv : ∀ b, v.ownBlock = some b → b < B) {g cap : Nat}
    (o : W.ownsRow w0.heap.size 37 2 (.slice (some ⟨g, 0, none⟩) (ts.length + 1) cap) (ts.length + 1) (cellsB ts ++ [.int .u64 (pl : Int), y])) (gr : w.grownBy W v.ownBlock) (hg : v.ownBlock = some g ∨ g = w.heap.size) :
    OwnB w0 W (.slice (some ⟨g, 0, none⟩) (ts.length + 1) cap) (ts ++ [(pl, y, es)]) := by
  have kW : Kept v.ownBlock.toList w W := ((Kept.refl _ w)).grown gr (by intro k hk; left; simp [hk])
  refine ⟨by rw [cellsB_app, List.length_append]; exact o, fun t ht => ?_, Nat.le_trans h.sz kW.size⟩
  rcases List.mem_append.1 ht with ht | ht
  · obtain ⟨B1, C, h1, h2, h3, h4⟩ := h.rd t ht
    refine ⟨B1, C, Nat.le_trans h1 kW.size, h2, fun b hb => ?_, fun N w2 kN hN => h4 (v.ownBlock.toList ++ N) w2 ((kW.mono (M := v.ownBlock.toList ++ N) (fun x hx => List.mem_append_left _ hx)).trans kN (fun x hx => Or.inl (by simp [hx]))) (fun x hx => ?_)⟩
    · simp only [Value.ownBlock, Option.some.injEq] at hb
      subst hb
      rcases hg with hg | hg
      · exact h3 _ hg
      · omega
    · rcases List.mem_append.1 hx with hx | hx
      · exact h3 x (by simpa using hx)
      · exact hN x hx
  · rw [List.mem_singleton] at ht
    subst ht
    refine ⟨B, w.heap.size, kW.size, hB, fun b hb => ?_, fun N w2 kN hN => hy.stay (M := v.ownBlock.toList ++ N) ((kW.mono (M := v.ownBlock.toList ++ N) (fun x hx => List.mem_append_left _ hx)).trans kN (fun x hx => Or.inl (by simp [hx]))) (fun x hx => ?_)⟩
    · simp only [Value.ownBlock, Option.some.injEq] at hb
      subst hb
      rcases hg with hg | hg
      · exact Or.inl (hBv _ hg)
      · omega
    · rcases List.mem_append.1 hx with hx | hx
      · exact Or.inl (hBv x (by simpa using hx))
      · exact hN x hx
/-- One batch more. -/
theorem pushB (w : World) (base : Nat) (v : Value) (ts : List (Nat × Value × List En)) (pl : Nat) (x : Value) (H : Nat) (h : w.ownsRow base 37 2 v ts.length (cellsB ts)) (hnew : w.heap[H]? = some (.cells #[.int .u64 (pl : Int), x] 37 (0, 0))) (hx : x.oneCell' = true) (hl : ts.length + 1 ≤ 1000000000000) (hb : base ≤ w.heap.size) :
    ∃ g cap w1, (Builtin.append_ #[38, 38] 38 #[v, .slice (some ⟨H, 0, none⟩) 1 1]).run Tryz.prog w = .ok (.slice (some ⟨g, 0, none⟩) (ts.length + 1) cap) w1 ∧
      w1.ownsRow base 37 2 (.slice (some ⟨g, 0, none⟩) (ts.length + 1) cap) (ts.length + 1) (cellsB ts ++ [.int .u64 (pl : Int), x]) ∧ w.grownBy w1 v.ownBlock ∧ (v.ownBlock = some g ∨ g = w.heap.size) := by
  obtain ⟨i0, hi, hz0, hz1, hz2⟩ := info_parts Tryz.infoBt
  obtain ⟨g, cap, w1, hr, hown, hgrow, hat, hlt⟩ := run_append_lies (P := Tryz.prog) w 38 38 base 37 i0 (.agg #[.int .u64 0, .slice none 0 0]) 2 32 Tryz.underlying38 hi hz0 hz1 hz2 rfl (by decide)
    v ts.length (cellsB ts) h ⟨H, 0, none⟩ 1 1 [.int .u64 (pl : Int), x] rfl (World.news_of_block hnew) (by intro u hu; simp at hu; rcases hu with rfl | rfl; rfl; exact hx) (by decide) (by unfold maxLen; omega) (by omega) hb _ rfl
  exact ⟨g, cap, w1, hr, hown, hgrow, hat⟩
theorem wpList_pushB {ops : Array Oper} {rest : List Oper} {o : Oper} {a : Act} {Q : Exit → Act → World → Prop} (hgd : o.guard = none) (s x : Operand)
    (ho : o.op = .call { callee := .builtin .append, args := #[s, x], argTypes := #[38, 38] }) (hty : o.type = 38)
    (w : World) (base : Nat) (v : Value) (ts : List (Nat × Value × List En)) (pl : Nat) (y : Value) (H : Nat) (h : w.ownsRow base 37 2 v ts.length (cellsB ts)) (hnew : w.heap[H]? = some (.cells #[.int .u64 (pl : Int), y] 37 (0, 0))) (hy : y.oneCell' = true) (hl : ts.length + 1 ≤ 1000000000000) (hb : base ≤ w.heap.size)
    (hs : a.eval s = v) (hx : a.eval x = .slice (some ⟨H, 0, none⟩) 1 1)
    (hK : ∀ g cap w1, Hid (w1.ownsRow base 37 2 (.slice (some ⟨g, 0, none⟩) (ts.length + 1) cap) (ts.length + 1) (cellsB ts ++ [.int .u64 (pl : Int), y])) → Hid (w.grownBy w1 v.ownBlock) → Hid (v.ownBlock = some g ∨ g = w.heap.size) →
      wpList Tryz.prog ops Q rest (a.put o.dst (.slice (some ⟨g, 0, none⟩) (ts.length + 1) cap)) w1) :
    wpList Tryz.prog ops Q (o :: rest) a w := by
  obtain ⟨g, cap, w1, hrun, h2, h3, h4⟩ := pushB w base v ts pl y H h hnew hy hl hb
  refine wpList_plain hgd fun K hK' => ?_
  unfold Oper.wp execOp
  simp only [ho, hty, resolve, invoke, builtin, Sem.run_bind, Sem.run_pure, Result.andThen_ok, List.map_toArray, List.map_cons, List.map_nil, hs, hx, hrun]
  exact hK' _ _ (hK g cap w1 h2 h3 h4)

theorem scells {w : World} {b : Nat} {x0 x1 x2 x3 x4 x5 : Value} {t : TypeId} (h : w.heap[b]? = some (.cells #[x0, x1, x2, x3, x4, x5] t (0, 0))) : w.cell? ⟨b, 0, none⟩ = some x0 ∧ w.cell? ⟨b, 1, none⟩ = some x1 ∧ w.cell? ⟨b, 2, none⟩ = some x2 ∧ w.cell? ⟨b, 3, none⟩ = some x3 ∧ w.cell? ⟨b, 4, none⟩ = some x4 ∧ w.cell? ⟨b, 5, none⟩ = some x5 := by
  refine ⟨?_, ?_, ?_, ?_, ?_, ?_⟩ <;> rw [cell_of_row _ _ _ _ _ _ h] <;> rfl
theorem sfroz {w : World} {b : Nat} {cs : Array Value} {t : TypeId} (h : w.heap[b]? = some (.cells cs t (0, 0))) : w.frozen? ⟨b, 0, none⟩ = false ∧ w.frozen? ⟨b, 1, none⟩ = false ∧ w.frozen? ⟨b, 2, none⟩ = false ∧ w.frozen? ⟨b, 3, none⟩ = false ∧ w.frozen? ⟨b, 4, none⟩ = false ∧ w.frozen? ⟨b, 5, none⟩ = false :=
  ⟨frozen_of_row _ _ _ _ _ h, frozen_of_row _ _ _ _ _ h, frozen_of_row _ _ _ _ _ h, frozen_of_row _ _ _ _ _ h, frozen_of_row _ _ _ _ _ h, frozen_of_row _ _ _ _ _ h⟩
theorem put6_heap {w : World} {g : Nat} {a b c d e f : Value} {t : TypeId} (h : w.heap[g]? = some (.cells #[a, b, c, d, e, f] t (0, 0))) (x y z u r s : Value) : ((((((w.setCell ⟨g, 0, none⟩ x).setCell ⟨g, 1, none⟩ y).setCell ⟨g, 2, none⟩ z).setCell ⟨g, 3, none⟩ u).setCell ⟨g, 4, none⟩ r).setCell ⟨g, 5, none⟩ s).heap[g]? = some (.cells #[x, y, z, u, r, s] t (0, 0)) := by
  rw [heap_setCell_same _ g 5 _ t _ (heap_setCell_same _ g 4 _ t _ (heap_setCell_same _ g 3 _ t _ (heap_setCell_same _ g 2 _ t _ (heap_setCell_same _ g 1 _ t _ (heap_setCell_same w g 0 _ t _ h)))))]; rfl
theorem put6_kept {L : List Nat} {w0 w : World} (k : Kept L w0 w) (g : Nat) (hg : g ∈ L ∨ w0.heap.size ≤ g) (x y z u r s : Value) : Kept L w0 ((((((w.setCell ⟨g, 0, none⟩ x).setCell ⟨g, 1, none⟩ y).setCell ⟨g, 2, none⟩ z).setCell ⟨g, 3, none⟩ u).setCell ⟨g, 4, none⟩ r).setCell ⟨g, 5, none⟩ s) := (((((k.setCell hg x).setCell hg y).setCell hg z).setCell hg u).setCell hg r).setCell hg s
theorem Tryz.size_seg : (Tryz.prog.info? 40).map (·.size) = some 6 := by kernel_rfl
theorem put45_heap {w : World} {g : Nat} {a b c d e f : Value} {t : TypeId} (h : w.heap[g]? = some (.cells #[a, b, c, d, e, f] t (0, 0))) (r s : Value) : ((w.setCell ⟨g, 4, none⟩ r).setCell ⟨g, 5, none⟩ s).heap[g]? = some (.cells #[a, b, c, d, r, s] t (0, 0)) := by
  rw [heap_setCell_same _ g 5 _ t _ (heap_setCell_same _ g 4 _ t _ h)]; rfl

/-- The batches from the place z on, the next index being i, and where they end. -/
def rdL : Nat → List Nat → Nat → Nat → List (Nat × List En) × Nat
  | 0, _, z, _ => ([], z)
  | k + 1, p, z, i => if rbOk p z i then ((i, rbE p z i) :: (rdL k p (rbN p z i).toNat ((i + (rbE p z i).length) % 18446744073709551616)).1, (rdL k p (rbN p z i).toNat ((i + (rbE p z i).length) % 18446744073709551616)).2) else ([], z)
theorem rdL_no {k z i : Nat} {p : List Nat} (h : rbOk p z i = false) : rdL k p z i = ([], z) := by
  cases k with
  | zero => rfl
  | succ k => rw [rdL, h]; rfl
theorem rdL_yes {k z i : Nat} {p : List Nat} (h : rbOk p z i = true) : rdL (k + 1) p z i = ((i, rbE p z i) :: (rdL k p (rbN p z i).toNat ((i + (rbE p z i).length) % 18446744073709551616)).1, (rdL k p (rbN p z i).toNat ((i + (rbE p z i).length) % 18446744073709551616)).2) := by
  rw [rdL, if_pos h]
/-- What Read answers. -/
def sgB (p : List Nat) : List (Nat × List En) := if (hdF p).isSome then (rdL p.length p 48 (hdC p).c).1 else []
def sgU (p : List Nat) : Nat := if (hdF p).isSome then (rdL p.length p 48 (hdC p).c).2 else 0
def sgE (p : List Nat) : Nat := if (hdF p).isSome then 0 else 3
theorem rb_next {p : List Nat} {z i : Nat} (hb : ∀ x ∈ p, x < 256) (h : rbOk p z i = true) : ∃ n : Nat, rbN p z i = (n : Int) ∧ z + 18 < n ∧ n ≤ p.length := by
  have hn : rbN p z i = (nextF p z).next := by simp [rbN, h]
  have hk : (nextF p z).kind = 1 := by unfold rbOk at h; simp at h; exact h.1
  rcases nextF_cases p z hb with ⟨_, hN⟩ | ⟨_, hN⟩ | ⟨m, pl, pay, hzn, hN, b1, b2, b3, b4, b5, b6, b7⟩
  · rw [hN] at hk; simp at hk
  · rw [hN] at hk; simp at hk
  · rw [hN] at hn
    refine ⟨m + 18 + pay.length, hn, by omega, b5⟩
end Go.Proofs.YtckkalmhekfnhabGreatDoor
namespace Go.Proofs.YtckkalmhekfnhabGreatDoor
open Go.RowKit Go.BigFrame
set_option linter.unusedVariables false
set_option linter.unusedSimpArgs false

set_option maxRecDepth 100000 in
set_option maxHeartbeats 4000000 in
theorem read_any (v : Value) (p : List Nat) (w : World) (h : Rd w v p) (hl : p.length ≤ 100000000000) :
    Calls Tryz.prog 11 #[v] w fun e w' => ∃ bv, e = .returned (.tuple #[.agg #[.int .u64 (hdC p).a, .int .u64 (hdC p).b, .int .u64 (hdC p).c, .int .i64 (hdC p).d, bv, .int .i64 (sgU p)], .int .i64 (sgE p)]) ∧ RdB w' bv (sgB p) ∧ Kept [] w w' ∧ ∀ M w2, Kept M w' w2 → (∀ x ∈ M, x < w.heap.size) → RdB w2 bv (sgB p) := by
  have H := hide h
  obtain ⟨a1, n1, c1, rfl, hn1, _⟩ := id h
  subst hn1
  clear h
  have HZ0 := hide (heap_alloc_new w (.cells #[.int .u64 0, .int .u64 0, .int .u64 0, .int .i64 0, .slice none 0 0, .int .i64 0] 40))
  have HK0 := hide ((Kept.refl [] w).alloc (.cells #[.int .u64 0, .int .u64 0, .int .u64 0, .int .i64 0, .slice none 0 0, .int .i64 0] 40))
  have HLP := hide hl
  obtain ⟨X, hX⟩ : ∃ X, hdC p = X := ⟨_, rfl⟩
  obtain ⟨T, hT⟩ : ∃ T, rdL p.length p 48 X.c = T := ⟨_, rfl⟩
  obtain ⟨U, hU⟩ : ∃ U, sgU p = U := ⟨_, rfl⟩
  obtain ⟨S, hS⟩ : ∃ S, sgB p = S := ⟨_, rfl⟩
  obtain ⟨E, hE⟩ : ∃ E, sgE p = E := ⟨_, rfl⟩
  rw [hX, hU, hS, hE]
  have HNO := hide (fun (h0 : (hdF p).isSome = false) => by
    rw [← hU, ← hS, ← hE]
    exact ⟨by rw [← hX]; rw [Option.isSome_eq_false_iff, Option.isNone_iff_eq_none] at h0; simp [hdC, h0], by simp [sgU, h0], by simp [sgB, h0], by simp [sgE, h0]⟩ : (hdF p).isSome = false → X = ⟨0, 0, 0, 0⟩ ∧ U = 0 ∧ S = [] ∧ E = 3)
  have HYE := hide (fun (h0 : (hdF p).isSome = true) => by
    rw [← hU, ← hS, ← hE, ← hT, ← hX]
    exact ⟨by simp [sgU, h0], by simp [sgB, h0], by simp [sgE, h0]⟩ : (hdF p).isSome = true → U = T.2 ∧ S = T.1 ∧ E = 0)
  have HT := hide hT
  have HN48 := hide (by simp [hdN] : hdN p = if (hdF p).isSome then 48 else 0)
  clear hT hU hS hE hl
  go_enter Tryz.func11, Tryz.ntmps11
  go_wp2_with fail
  refine Calls.mono (readHead_any _ p _ ((unhide H).old (unhide HK0) (by simp))) ?_
  rintro e w1 ⟨rfl, k1⟩
  rw [hX, unhide HN48]
  clear hX
  have HZ1 := hide (k1.heap (unhide HZ0) (by simp))
  have HK1 := hide ((unhide HK0).trans k1 (by simp))
  clear k1
  have HHW := hide (heap_alloc_new w1 (.cells #[.int .u64 (X.a : Int), .int .u64 (X.b : Int), .int .u64 (X.c : Int), .int .i64 (X.d : Int)] 33))
  have HKW := hide ((unhide HK1).alloc (.cells #[.int .u64 (X.a : Int), .int .u64 (X.b : Int), .int .u64 (X.c : Int), .int .i64 (X.d : Int)] 33))
  have HZW := hide (((Kept.refl [] w1).alloc (.cells #[.int .u64 (X.a : Int), .int .u64 (X.b : Int), .int .u64 (X.c : Int), .int .i64 (X.d : Int)] 33)).heap (unhide HZ1) (by simp))
  obtain ⟨W1, hW1⟩ : ∃ W, w1.alloc (.cells #[.int .u64 (X.a : Int), .int .u64 (X.b : Int), .int .u64 (X.c : Int), .int .i64 (X.d : Int)] 33) = W := ⟨_, rfl⟩
  rw [hW1] at HHW HKW HZW
  have HW1 := hide hW1
  clear hW1
  obtain ⟨d0, d1, d2, d3, d4, d5⟩ := scells (unhide HZW)
  obtain ⟨f0, f1, f2, f3, f4, f5⟩ := sfroz (unhide HZW)
  obtain ⟨g0, g1, g2, g3⟩ := hcells (unhide HHW)
  rw [← unhide HW1] at d0 d1 d2 d3 d4 d5 f0 f1 f2 f3 f4 f5 g0 g1 g2 g3
  by_cases hok : (hdF p).isSome = true
  · rw [hok]
    simp only [if_true]
    rw [show ((48 : Nat) : Int) = 48 from rfl]
    have HV := hide (unhide HYE hok)
    clear hok HYE HNO HN48
    have HS0 := hide (heap_alloc_new W1 (.cells #[.int .u64 (X.a : Int), .int .u64 (X.b : Int), .int .u64 (X.c : Int), .int .i64 (X.d : Int), .slice none 0 0, .int .i64 48] 40))
    have HKS := hide ((Kept.refl [] W1).alloc (.cells #[.int .u64 (X.a : Int), .int .u64 (X.b : Int), .int .u64 (X.c : Int), .int .i64 (X.d : Int), .slice none 0 0, .int .i64 48] 40))
    have HSZ := hide (by rw [← unhide HW1]; simp : W1.heap.size = w1.heap.size + 1)
    rw [unhide HSZ] at HS0
    go_wp2_with fail
    rw [unhide HW1]
    have HZS := hide ((unhide HKS).heap (unhide HZW) (by simp))
    have HKw := hide ((unhide HKW).trans (unhide HKS) (by simp))
    have HLT := hide (by have := lt_of_block (unhide HZ1); omega : w.heap.size < w1.heap.size + 1)
    obtain ⟨W2, hW2⟩ : ∃ W, W1.alloc (.cells #[.int .u64 (X.a : Int), .int .u64 (X.b : Int), .int .u64 (X.c : Int), .int .i64 (X.d : Int), .slice none 0 0, .int .i64 48] 40) = W := ⟨_, rfl⟩
    have HS2 := hide (by rw [← hW2]; simp [unhide HSZ] : W2.heap.size = w1.heap.size + 1 + 1)
    rw [hW2] at HS0 HKS HZS HKw ⊢
    clear hW2 d0 d1 d2 d3 d4 d5 f0 f1 f2 f3 f4 f5 g0 g1 g2 g3 HKS
    go_loopw [8] (fun t8 wr => ∃ (n f i : Nat) (bv : Value) (ts : List (Nat × Value × List En)), t8 = .int .u64 (i : Int) ∧ Hid (n ≤ p.length + 48 ∧ p.length ≤ n + f ∧ ts.length ≤ n) ∧ Hid (T = (ts.map (fun t => (t.1, t.2.2)) ++ (rdL f p n i).1, (rdL f p n i).2)) ∧ Hid (wr.heap[w1.heap.size + 1]? = some (.cells #[.int .u64 (X.a : Int), .int .u64 (X.b : Int), .int .u64 (X.c : Int), .int .i64 (X.d : Int), bv, .int .i64 (n : Int)] 40 (0, 0))) ∧ Hid (OwnB W2 wr bv ts) ∧ Hid (Kept [] w wr) ∧ Hid (wr.heap[w.heap.size]? = some (.cells #[.int .u64 0, .int .u64 0, .int .u64 0, .int .i64 0, .slice none 0 0, .int .i64 0] 40 (0, 0)))) (fun _ wr => p.length - (intOf ((wr.cell? ⟨w1.heap.size + 1, 5, none⟩).getD undef)).toNat)
    case atStart => exact ⟨48, p.length, X.c, .slice none 0 0, [], rfl, hide ⟨by omega, by omega, by simp⟩, hide (by rw [unhide HT]; simp), HS0, hide (OwnB.start _), HKw, HZS⟩
    case round =>
      obtain ⟨n, f, i, bv, ts, rfl, HN, HR, HS, HO, HK, HZ⟩ := hrel
      obtain ⟨s0, s1, s2, s3, s4, s5⟩ := scells (unhide HS)
      have HC5 := hide s5
      go_wp2_with fail
      refine Calls.mono (readBatch_any _ p (n : Int) i wr ((unhide H).old (unhide HK) (by simp)) (by have := (unhide HN).1; have := unhide HLP; omega)) ?_
      rintro e w3 ⟨b3, rfl, nb, k3⟩
      obtain ⟨a3, n3, c3, _, _, hb3, hl3, _⟩ := id nb.rdN
      subst hb3
      have HL3 := hide hl3
      have HNB := hide nb
      have HSB := hide (k3.size)
      have HO3 := hide ((unhide HO).pass k3 (by simp))
      have HS3 := hide (k3.heap (unhide HS) (by simp))
      have HZ3 := hide (k3.heap (unhide HZ) (by simp))
      have HK3 := hide ((unhide HK).trans k3 (by simp))
      have HBB := hide (fun b hb => ((unhide HO).own.lt b hb).2 : ∀ b, bv.ownBlock = some b → b < wr.heap.size)
      have HWB := hide ((unhide HO).sz)
      clear k3 nb s0 s1 s2 s3 s4 s5 hl3 HS HO HK HZ
      obtain ⟨R, hRR⟩ : ∃ R, rbF p (n : Int) i = R := ⟨_, rfl⟩
      obtain ⟨V, hVV⟩ : ∃ V, rbN p (n : Int) i = V := ⟨_, rfl⟩
      rw [hRR, hVV]
      have HBW := hide (heap_alloc_new w3 (.cells #[.int .u64 (R : Int), .slice a3 n3 c3] 37))
      have KA := hide ((Kept.refl [] w3).alloc (.cells #[.int .u64 (R : Int), .slice a3 n3 c3] 37))
      obtain ⟨W4, hW4⟩ : ∃ W, w3.alloc (.cells #[.int .u64 (R : Int), .slice a3 n3 c3] 37) = W := ⟨_, rfl⟩
      rw [hW4] at HBW KA
      have HW4 := hide hW4
      clear hW4
      have HS4 := hide ((unhide KA).heap (unhide HS3) (by simp))
      have HZ4 := hide ((unhide KA).heap (unhide HZ3) (by simp))
      obtain ⟨s0, s1, s2, s3, s4, s5⟩ := scells (unhide HS4)
      obtain ⟨g0, g1⟩ := bcells (unhide HBW)
      obtain ⟨z0, z1, z2, z3, z4, z5⟩ := scells (unhide HZ4)
      obtain ⟨f0, f1, f2, f3, f4, f5⟩ := sfroz (unhide HZ4)
      rw [← unhide HW4] at s0 s1 s2 s3 s4 s5 g0 g1 z0 z1 z2 z3 z4 z5 f0 f1 f2 f3 f4 f5
      by_cases hrb : rbOk p (n : Int) i = true
      · rw [hrb]
        obtain ⟨m, hm, hm1, hm2⟩ := rb_next (unhide H).byte hrb
        have HRI := hide (by rw [← hRR]; simp [rbF, hrb] : R = i)
        obtain ⟨f', rfl⟩ : ∃ f', f = f' + 1 := ⟨f - 1, by have := (unhide HN).2.1; omega⟩
        have HE := hide (rdL_yes (k := f') hrb)
        rw [hm, Int.toNat_natCast] at HE
        obtain rfl : V = (m : Int) := by rw [← hVV, hm]
        obtain ⟨es, hes⟩ : ∃ es, rbE p (n : Int) i = es := ⟨_, rfl⟩
        rw [hes] at HE HNB HL3
        have HM := hide (⟨hm1, hm2⟩ : n + 18 < m ∧ m ≤ p.length)
        clear hrb hm hm1 hm2 hVV hRR hes
        have HO4 := hide (((unhide HO3).pass (unhide KA) (by simp)).pass ((Kept.refl [] W4).alloc (.cells #[.int .u64 (R : Int), .slice a3 n3 c3] 37)) (by simp))
        have HX4 := hide (((Kept.refl [] W4).alloc (.cells #[.int .u64 (R : Int), .slice a3 n3 c3] 37)).heap (unhide HS4) (by simp))
        have HY4 := hide (((Kept.refl [] W4).alloc (.cells #[.int .u64 (R : Int), .slice a3 n3 c3] 37)).heap (unhide HZ4) (by simp))
        have HG4 := hide (((Kept.refl [] W4).alloc (.cells #[.int .u64 (R : Int), .slice a3 n3 c3] 37)).heap (unhide HBW) (by simp))
        have HK4 := hide (((unhide HK3).trans (unhide KA) (by simp)).alloc (.cells #[.int .u64 (R : Int), .slice a3 n3 c3] 37))
        have HN4 := hide (((unhide HNB).kept (unhide KA) (by simp)).kept ((Kept.refl [] W4).alloc (.cells #[.int .u64 (R : Int), .slice a3 n3 c3] 37)) (by simp))
        have HH4 := hide (by rw [← unhide HW4]; exact heap_alloc2_new _ _ _ : (W4.alloc (.cells #[.int .u64 (R : Int), .slice a3 n3 c3] 37)).heap[w3.heap.size + 1]? = some (.cells #[.int .u64 (R : Int), .slice a3 n3 c3] 37 (0, 0)))
        rw [← unhide HW4] at HO4 HX4 HY4 HG4 HK4 HN4 HH4
        have HNB4 := hide (fun b hb => by have := unhide HBB b hb; have := unhide HSB; exact Nat.ne_of_lt (by omega) : ∀ b, bv.ownBlock = some b → b ≠ w3.heap.size)
        have HNS4 := hide (fun b hb => by have := ((unhide HO3).own.lt b hb).1; have := unhide HS2; omega : ∀ b, bv.ownBlock = some b → b ≠ w1.heap.size + 1)
        have HNZ4 := hide (fun b hb => by have := ((unhide HO3).own.lt b hb).1; have := unhide HS2; have := unhide HLT; omega : ∀ b, bv.ownBlock = some b → b ≠ w.heap.size)
        go_upto_region 10 with (at_builtin; refine wpList_pushB rfl (.tmp 39) (.tmp 41) rfl rfl _ W2.heap.size bv ts R (.slice a3 n3 c3) (w3.heap.size + 1) (unhide HO4).own (unhide HH4) rfl (by have := unhide HN; have := unhide HLP; omega) (unhide HO4).sz rfl rfl ?_; intro g cap w5 HO5 HG5 HA5; (have HX5 := hide (((Kept.refl (bv.ownBlock.toList) _).grown (unhide HG5) (by intro k hk; left; simp [hk])).heap (unhide HX4) (by intro hm; exact unhide HNS4 _ (by simpa using hm) rfl))); (obtain ⟨x0, x1, x2, x3, x4, x5⟩ := scells (unhide HX5)); (obtain ⟨q0, q1, q2, q3, q4, q5⟩ := sfroz (unhide HX5)))
        have HK5 := hide ((Kept.refl (bv.ownBlock.toList) _).grown (unhide HG5) (by intro k hk; left; simp [hk]))
        have HB5 := hide ((unhide HK5).heap (unhide HG4) (by intro hm; exact unhide HNB4 _ (by simpa using hm) rfl))
        have HZ5 := hide ((unhide HK5).heap (unhide HY4) (by intro hm; exact unhide HNZ4 _ (by simpa using hm) rfl))
        have HP5 := hide ((unhide HO4).push (unhide HN4) (unhide HWB) (unhide HBB) (unhide HO5) (unhide HG5) (unhide HA5))
        have HKW5 := hide ((unhide HK4).grown (unhide HG5) (fun k hk => Or.inr (by have := ((unhide HO3).own.lt k hk).1; have := unhide HS2; have := unhide HLT; omega)))
        have HSS := hide (by have := lt_of_block (unhide HX5); have := (unhide HO3).sz; have := unhide HS2; have := unhide HWB; have := unhide HSB; omega : w1.heap.size + 1 ≠ w3.heap.size)
        clear x0 x1 x2 x3 x4 x5 q0 q1 q2 q3 q4 q5 HO5 HG5 HA5 HO4 HX4 HY4 HG4 HK4 HN4 HH4 HNB4 HNS4 HNZ4 HK5 s0 s1 s2 s3 s4 s5 g0 g1 z0 z1 z2 z3 z4 z5 f0 f1 f2 f3 f4 f5 HW4 HBW KA HS4 HZ4
        have HX6 := hide (put45_heap (unhide HX5) (.slice (some ⟨g, 0, none⟩) (ts.length + 1) cap) (.int .i64 (m : Int)))
        have HK6 := hide (((Kept.refl [w1.heap.size + 1] w5).setCell (p := ⟨w1.heap.size + 1, 4, none⟩) (Or.inl (by simp)) (.slice (some ⟨g, 0, none⟩) (ts.length + 1) cap)).setCell (p := ⟨w1.heap.size + 1, 5, none⟩) (Or.inl (by simp)) (.int .i64 (m : Int)))
        have HKW6 := hide (((unhide HKW5).setCell (p := ⟨w1.heap.size + 1, 4, none⟩) (Or.inr (by have := unhide HLT; simp only; omega)) (.slice (some ⟨g, 0, none⟩) (ts.length + 1) cap)).setCell (p := ⟨w1.heap.size + 1, 5, none⟩) (Or.inr (by have := unhide HLT; simp only; omega)) (.int .i64 (m : Int)))
        generalize (w5.setCell ⟨w1.heap.size + 1, 4, none⟩ (.slice (some ⟨g, 0, none⟩) (ts.length + 1) cap)).setCell ⟨w1.heap.size + 1, 5, none⟩ (.int .i64 (m : Int)) = W6 at HX6 HK6 HKW6 ⊢
        have HB6 := hide ((unhide HK6).heap (unhide HB5) (by intro hm; exact unhide HSS (by simpa using (List.mem_singleton.1 hm).symm)))
        have HZ6 := hide ((unhide HK6).heap (unhide HZ5) (by intro hm; have := List.mem_singleton.1 hm; have := unhide HLT; omega))
        have HP6 := hide ((unhide HP5).pass (unhide HK6) (by have := unhide HS2; simp; omega))
        obtain ⟨g0, g1⟩ := bcells (unhide HB6)
        go_wp2_with fail
        go_roundw
        case rel =>
          refine ⟨m, f', (i + es.length) % 18446744073709551616, .slice (some ⟨g, 0, none⟩) (ts.length + 1) cap, ts ++ [(R, .slice a3 n3 c3, es)], ?_, hide ⟨by have := (unhide HM).2; omega, by have := (unhide HN).2.1; have := (unhide HM).1; omega, by have := (unhide HN).2.2; have := (unhide HM).1; rw [List.length_append]; simp; omega⟩, hide ?_, HX6, HP6, HKW6, HZ6⟩
          · have h9 := unhide HL3
            rw [h9, IntKind.wrap_u64]
            simp
          · rw [unhide HR, unhide HE, unhide HRI]
            simp
        case measure =>
          rw [(scells (unhide HX6)).2.2.2.2.2, unhide HC5]
          have := unhide HM
          simp [intOf]
          omega
      · rw [Bool.not_eq_true] at hrb
        rw [hrb]
        have HE := hide (rdL_no (k := f) hrb)
        have HBS := hide (by
          have h9 := (unhide HO3).own.2
          rcases h9 with ⟨rfl, _⟩ | ⟨g, cap, cur, rfl, _⟩
          · exact ⟨_, _, _, rfl⟩
          · exact ⟨_, _, _, rfl⟩ : ∃ a n c, bv = .slice a n c)
        obtain ⟨ab, nb, cb, rfl⟩ := unhide HBS
        clear hrb
        go_wp2
        rw [unhide HW4]
        refine bodyPost_ret (v := .tuple #[.agg #[.int .u64 (X.a : Int), .int .u64 (X.b : Int), .int .u64 (X.c : Int), .int .i64 (X.d : Int), .slice ab nb cb, .int .i64 (n : Int)], .int .i64 0]) ?_ rfl ⟨.slice ab nb cb, by rw [(unhide HV).1, (unhide HV).2.2, unhide HR, unhide HE]; rfl, ?_, put6_kept ((unhide HK3).trans (unhide KA) (by simp)) w.heap.size (Or.inr (Nat.le_refl _)) _ _ _ _ _ _, ?_⟩
        · exact results_cell_tmp rfl _ _ w.heap.size _ #[.int .u64 (X.a : Int), .int .u64 (X.b : Int), .int .u64 (X.c : Int), .int .i64 (X.d : Int), .slice ab nb cb, .int .i64 (n : Int)] (0, 0) _ rfl (put6_heap (unhide HZ4) _ _ _ _ _ _) Tryz.underlying40 rfl Tryz.size_seg _ rfl
        · rw [(unhide HV).2.1, unhide HR, unhide HE, List.append_nil]
          exact (((unhide HO3).pass (unhide KA) (by simp)).pass (put6_kept (L := [w.heap.size]) (Kept.refl _ W4) w.heap.size (Or.inl (by simp)) _ _ _ _ _ _) (by have := unhide HLT; have := unhide HS2; simp; omega)).rdB
        · intro M w9 k9 hM
          rw [(unhide HV).2.1, unhide HR, unhide HE, List.append_nil]
          exact ((((unhide HO3).pass (unhide KA) (by simp)).pass (put6_kept (L := [w.heap.size]) (Kept.refl _ W4) w.heap.size (Or.inl (by simp)) _ _ _ _ _ _) (by have := unhide HLT; have := unhide HS2; simp; omega)).pass k9 (fun x hx => by have := hM x hx; have := unhide HLT; have := unhide HS2; omega)).rdB
  · rw [Bool.not_eq_true] at hok
    rw [hok]
    simp only [Bool.false_eq_true, if_false]
    have HV := hide (unhide HNO hok)
    go_wp2
    rw [unhide HW1]
    refine bodyPost_ret (v := .tuple #[.agg #[.int .u64 0, .int .u64 0, .int .u64 0, .int .i64 0, .slice none 0 0, .int .i64 0], .int .i64 3]) ?_ rfl ⟨.slice none 0 0, by rw [(unhide HV).1, (unhide HV).2.1, (unhide HV).2.2.2]; rfl, by rw [(unhide HV).2.2.1]; exact RdB.nil _, put6_kept (unhide HKW) w.heap.size (Or.inr (Nat.le_refl _)) _ _ _ _ _ _, fun M w9 _ _ => by rw [(unhide HV).2.2.1]; exact RdB.nil _⟩
    exact results_cell_tmp rfl _ _ w.heap.size _ #[.int .u64 0, .int .u64 0, .int .u64 0, .int .i64 0, .slice none 0 0, .int .i64 0] (0, 0) _ rfl (put6_heap (unhide HZW) _ _ _ _ _ _) Tryz.underlying40 rfl Tryz.size_seg _ rfl
end Go.Proofs.YtckkalmhekfnhabGreatDoor
namespace Go.Proofs.YtckkalmhekfnhabGreatDoor
open Go.RowKit Go.BigFrame
set_option linter.unusedVariables false
set_option linter.unusedSimpArgs false

/-- Entries of bytes. -/
def byN (es : List En) : Prop := ∀ e ∈ es, e.k < 256 ∧ (∀ x ∈ e.key, x < 256) ∧ ∀ x ∈ e.val, x < 256
theorem RdN.byN {w : World} {v : Value} {es : List En} (h : RdN w v es) : byN es := by
  obtain ⟨ao, len, cap, kv, vv, h1, h2, h3, h4, h5, h6⟩ := h
  intro e he
  obtain ⟨i, hi, rfl⟩ := List.mem_iff_getElem.1 he
  exact ⟨(h5 i hi).k, (h5 i hi).key.byte, (h5 i hi).val.byte⟩
theorem enB_byte {e : En} (h9 : e.k < 256 ∧ (∀ x ∈ e.key, x < 256) ∧ ∀ x ∈ e.val, x < 256) : ∀ x ∈ enB e, x < 256 := by
  intro x hx
  unfold enB at hx
  rw [List.mem_cons, List.mem_append, List.mem_append] at hx
  rcases hx with rfl | (hx | hx) | hx
  · exact h9.1
  · exact uv_byte _ x hx
  · exact h9.2.1 x hx
  · split at hx
    · rw [List.mem_append] at hx
      rcases hx with hx | hx
      · exact uv_byte _ x hx
      · exact h9.2.2 x hx
    · simp at hx
theorem entB_byte {es : List En} (h : byN es) : ∀ x ∈ entB es, x < 256 := by
  induction es with
  | nil => simp [entB]
  | cons e r ih =>
    intro x hx
    rw [entB, List.map_cons, List.flatten_cons, List.mem_append] at hx
    rcases hx with hx | hx
    · exact enB_byte (h e (by simp)) x hx
    · exact ih (fun y hy => h y (by simp [hy])) x hx
theorem batB_byte {f : Nat} {es : List En} (h : byN es) : ∀ x ∈ batB f es, x < 256 := by
  intro x hx
  unfold batB at hx
  rw [List.mem_append, List.mem_append] at hx
  rcases hx with hx | hx | hx
  · exact uv_byte _ x hx
  · exact uv_byte _ x hx
  · exact entB_byte h x hx
theorem headB_byte (a b c : Nat) (z : Int) : ∀ x ∈ headB a b c z, x < 256 := by
  intro x hx
  unfold headB at hx
  simp only [List.mem_append, List.mem_cons, List.not_mem_nil, or_false] at hx
  rcases hx with ((((h | h | h | h | h) | h) | h) | h) | h
  · omega
  · omega
  · omega
  · omega
  · omega
  · exact wide_byte _ _ x h
  · exact wide_byte _ _ x h
  · exact wide_byte _ _ x h
  · omega
/-- What a head's payload says. -/
theorem headB_parts (a b c : Nat) (z : Int) : (headB a b c z).take 5 = [78, 84, 82, 89, 49] ∧ ((headB a b c z).drop 5).take 8 = wide a 8 ∧ ((headB a b c z).drop 13).take 8 = wide b 8 ∧ ((headB a b c z).drop 21).take 8 = wide c 8 ∧ (headB a b c z).getD 29 0 = (z % 256).toNat := by
  have ha := wide_len a 8
  have hb := wide_len b 8
  have hc := wide_len c 8
  unfold headB
  generalize wide a 8 = A at *
  generalize wide b 8 = B at *
  generalize wide c 8 = C at *
  match A, ha, B, hb, C, hc with
  | [_, _, _, _, _, _, _, _], _, [_, _, _, _, _, _, _, _], _, [_, _, _, _, _, _, _, _], _ => exact ⟨rfl, rfl, rfl, rfl, rfl⟩
theorem hdF_laid {a b c : Nat} {z : Int} (ha : a < 18446744073709551616) (hb : b < 18446744073709551616) (hc : c < 18446744073709551616) (hz : wideB z = true) (r : List Nat) : hdF (ehB a b c z ++ r) = some ⟨a, b, c, z.toNat⟩ := by
  have hB : ehB a b c z = frB a (headB a b c z) := by simp [ehB, hz]
  have hzz : 1 ≤ z ∧ z ≤ 32 := by simpa [wideB] using hz
  obtain ⟨p1, p2, p3, p4, p5⟩ := headB_parts a b c z
  have hz2 : (z % 256).toNat = z.toNat := by omega
  unfold hdF
  rw [hB, firstF_some a (headB a b c z) r ha (by rw [headB_len]; decide) (by rw [headB_len]; decide) (headB_byte a b c z)]
  have hpay : payH a (headB a b c z) = true := by
    unfold payH
    rw [p1, p2, p5, headB_len, beL_of_wide (by decide) (by omega), hz2]
    simp; omega
  simp only
  rw [if_pos hpay, p2, p3, p4, p5, hz2, beL_of_wide (by decide) (by omega), beL_of_wide (by decide) (by omega), beL_of_wide (by decide) (by omega)]
theorem nextF_at (A : List Nat) (pl : Nat) (pay t : List Nat) (hpl : pl < 18446744073709551616) (h1 : 1 ≤ pay.length) (hl : pay.length ≤ 65535) (hb : ∀ x ∈ pay, x < 256) : nextF (A ++ (frB pl pay ++ t)) (A.length : Nat) = ⟨pl, pay, ((A.length + 18 + pay.length : Nat) : Int), 1⟩ := by
  have h := firstF_some pl pay t hpl h1 hl hb
  have hlen : (A ++ (frB pl pay ++ t)).length = A.length + (pay.length + 18 + t.length) := by rw [List.length_append, List.length_append, frB_len]
  unfold nextF
  rw [if_neg (by rw [hlen]; omega), if_neg (by rw [hlen]; omega), Int.toNat_natCast, List.drop_left, h]
  simp
theorem sbB_len {f : Nat} {es : List En} (hc : chkB f es = 0) : (sbB f es).length = (batB f es).length + 18 := by
  unfold sbB; rw [if_pos hc, frB_len]
/-- A batch that was laid is read. -/
theorem rb_laid (A : List Nat) {f : Nat} {es : List En} (t : List Nat) (hc : chkB f es = 0) (hf : f < 18446744073709551616) (hb : byN es) :
    rbOk (A ++ (sbB f es ++ t)) (A.length : Nat) f = true ∧ rbE (A ++ (sbB f es ++ t)) (A.length : Nat) f = es ∧ rbN (A ++ (sbB f es ++ t)) (A.length : Nat) f = ((A.length + (sbB f es).length : Nat) : Int) := by
  have hl := batB_lenS hc hf
  have hn := nextF_at A f (batB f es) t hf (by omega) (by omega) (batB_byte hb)
  have hs : sbB f es = frB f (batB f es) := by unfold sbB; rw [if_pos hc]
  rw [← hs] at hn
  have hok : rbOk (A ++ (sbB f es ++ t)) (A.length : Nat) f = true := by
    unfold rbOk
    rw [hn, decB_back hc hf]
    simp
  refine ⟨hok, ?_, ?_⟩
  · unfold rbE; rw [if_pos hok, hn, decB_back hc hf]
  · unfold rbN; rw [if_pos hok, hn, sbB_len hc]; simp only; omega
theorem rb_end (A : List Nat) (i : Nat) : rbOk A (A.length : Nat) i = false := by
  unfold rbOk
  have : nextF A (A.length : Nat) = ⟨0, [], (A.length : Nat), 0⟩ := by unfold nextF; rw [if_pos rfl]
  rw [this]; simp
theorem chkB_lt {f : Nat} {es : List En} (h : chkB f es = 0) : f + es.length ≤ 18446744073709551615 := (chkB_zero h).2.2.1
theorem ehB_len {a b c : Nat} {z : Int} (h : wideB z = true) : (ehB a b c z).length = 48 := by unfold ehB; rw [if_pos h, frB_len, headB_len]
/-- A whole segment of one batch. -/
theorem seg_one {a b c : Nat} {z : Int} {es : List En} (ha : a < 18446744073709551616) (hb : b < 18446744073709551616) (hc : c < 18446744073709551616) (hz : wideB z = true) (hk : chkB c es = 0) (hy : byN es) :
    hdF (ehB a b c z ++ sbB c es) = some ⟨a, b, c, z.toNat⟩ ∧ sgB (ehB a b c z ++ sbB c es) = [(c, es)] ∧ sgU (ehB a b c z ++ sbB c es) = 48 + (sbB c es).length ∧ sgE (ehB a b c z ++ sbB c es) = 0 := by
  have h1 := hdF_laid ha hb hc hz (sbB c es)
  have hX : hdC (ehB a b c z ++ sbB c es) = ⟨a, b, c, z.toNat⟩ := by unfold hdC; rw [h1]; rfl
  obtain ⟨r1, r2, r3⟩ := rb_laid (ehB a b c z) [] hk hc hy
  rw [List.append_nil, ehB_len hz] at r1 r2 r3
  have hl : (ehB a b c z ++ sbB c es).length = (sbB c es).length + 47 + 1 := by rw [List.length_append, ehB_len hz]; omega
  have hl2 : ((48 + (sbB c es).length : Nat) : Int).toNat = (ehB a b c z ++ sbB c es).length := by rw [Int.toNat_natCast, hl]; omega
  have hr : rdL (ehB a b c z ++ sbB c es).length (ehB a b c z ++ sbB c es) 48 c = ([(c, es)], 48 + (sbB c es).length) := by
    have e := rdL_yes (k := (sbB c es).length + 47) r1
    rw [r2, r3] at e
    rw [hl, e, hl2, rdL_no (rb_end _ _), hl]
    simp; omega
  refine ⟨h1, ?_, ?_, ?_⟩
  · unfold sgB; rw [h1, hX]; simp only [Option.isSome_some, if_true]; rw [hr]
  · unfold sgU; rw [h1, hX]; simp only [Option.isSome_some, if_true]; rw [hr]
  · unfold sgE; rw [h1]; rfl
end Go.Proofs.YtckkalmhekfnhabGreatDoor
namespace Go.Proofs.YtckkalmhekfnhabGreatDoor
open Go.RowKit Go.BigFrame
set_option linter.unusedVariables false
set_option linter.unusedSimpArgs false

set_option maxRecDepth 100000 in
set_option maxHeartbeats 2000000 in
theorem twinEntries_any (v : Value) (es : List En) (w : World) (h : RdN w v es) (hl : es.length ≤ 1048576) :
    Calls Tryz.prog 43 #[v] w fun r w' => ∃ v', r = .returned v' ∧ NewN w.heap.size w' v' es ∧ Kept [] w w' := by
  obtain ⟨ao, len, cap, kv, vv, rfl, h1, h2, h3, h4, h5⟩ := h
  have H4 := hide h4
  have H5 := hide h5
  clear h4 h5
  subst h1
  go_enter Tryz.func43, Tryz.ntmps43
  go_wp2_with fail
  go_loopw [8, 3] (fun t12 t3 wr => ∃ (i : Nat) (ts : List (En × Value × Value)), i ≤ es.length ∧ t12 = .int .i64 i ∧ Hid (ts.map (·.1) = es.take i) ∧ Hid (OwnN [] w wr t3 ts)) (fun t _ _ => es.length - (intOf t).toNat)
  case atStart => exact ⟨0, [], Nat.zero_le _, rfl, hide (by simp), hide (OwnN.start (Kept.refl [] w))⟩
  case round =>
    obtain ⟨i, ts, hi, rfl, HTS, HO⟩ := hrel
    have HTL := hide (by have h9 := congrArg List.length (unhide HTS); simp only [List.length_map, List.length_take] at h9; omega : ts.length ≤ 1048576)
    by_cases hlt : i < es.length
    · have hlt' : (i : Int) < es.length := by omega
      obtain ⟨b, off, rfl, hcc⟩ := unhide H5 (by omega)
      have hr := hcc i hlt
      have q0 := (unhide HO).kept.cell (hr 0 _ rfl) (by simp)
      have q1 := (unhide HO).kept.cell (hr 1 _ rfl) (by simp)
      have q2 := (unhide HO).kept.cell (hr 2 _ rfl) (by simp)
      rw [Nat.add_zero] at q0
      have HE := hide ((unhide H4 i hlt).old (unhide HO).kept)
      have HSN := hide (by rw [List.take_succ_eq_append_getElem hlt] : es.take (i + 1) = es.take i ++ [es[i]])
      clear hcc hr
      generalize kv i = kvi at q1 HE
      generalize vv i = vvi at q2 HE
      generalize es[i] = e at q0 HE HSN
      obtain ⟨a8, m8, c8, rfl, _⟩ := id (unhide HE).key
      obtain ⟨a9, m9, c9, rfl, _⟩ := id (unhide HE).val
      have HSZ := hide (unhide HO).kept.size
      go_wp2_with fail
      have k1 := (Kept.refl [] wr).alloc (.cells #[.int .u8 (e.k : Int), .slice a8 m8 c8, .slice a9 m9 c9] 44)
      refine Calls.mono (twinEntry_any e _ _ _ ((unhide HE).old k1)) ?_
      rintro r w2 ⟨kv2, vv2, rfl, ok2, k2, n2⟩
      obtain ⟨a3, m3, c3, hu3, _⟩ := id ok2.key
      subst hu3
      obtain ⟨a4, m4, c4, hu4, _⟩ := id ok2.val
      subst hu4
      have HN2 := hide (fun y hy => by have h9 := n2 y hy; rw [show (wr.alloc (.cells #[.int .u8 (e.k : Int), .slice a8 m8 c8, .slice a9 m9 c9] 44)).heap.size = wr.heap.size + 1 from Array.size_push _] at h9; exact h9 : ∀ y, y ∈ blk (.slice a3 m3 c3) ∨ y ∈ blk (.slice a4 m4 c4) → wr.heap.size + 1 ≤ y)
      have HO2 := hide (((unhide HO).old (M := []) (k1.trans k2 (by simp)) (by simp)).old (M := []) ((Kept.refl [] w2).alloc (.cells #[.int .u8 (e.k : Int), .slice a3 m3 c3, .slice a4 m4 c4] 44)) (by simp))
      have HK2 := hide (ok2.old ((Kept.refl [] w2).alloc (.cells #[.int .u8 (e.k : Int), .slice a3 m3 c3, .slice a4 m4 c4] 44)))
      have HB2 := hide (unhide HO2).kept.size
      have HOL := hide (fun g hg => ((unhide HO).own.lt g hg).2 : ∀ g, u3.ownBlock = some g → g < wr.heap.size)
      clear k1 k2 n2 ok2
      simp only [enC]
      go_wp2_with (at_builtin; refine wpList_pushN rfl _ _ rfl rfl _ w.heap.size u3 ts e (.slice a3 m3 c3) (.slice a4 m4 c4) w2.heap.size (unhide HO2).own (heap_alloc_new _ _) rfl rfl (by have := unhide HTL; omega) (unhide HB2) rfl rfl ?_; intro g cap2 w5 HO5 HG5 HA5)
      refine ⟨⟨i + 1, ts ++ [(e, .slice a3 m3 c3, .slice a4 m4 c4)], by omega, by go_num, hide ?_, hide ?_⟩, ?_⟩
      · rw [List.map_append, unhide HTS, unhide HSN]; rfl
      · refine (unhide HO2).push (unhide HK2) (fun b' hb' => ?_) (unhide HO5) (unhide HG5) (unhide HA5)
        have h9 : wr.heap.size + 1 ≤ b' := by
          rcases hb' with hb' | hb'
          · exact unhide HN2 b' (Or.inl (mem_nblk hb').1)
          · exact unhide HN2 b' (Or.inr (mem_nblk hb').1)
        have h8 := unhide HSZ
        exact ⟨fun e9 => by have h7 := unhide HOL b' e9; omega, by omega⟩
      · simp [intOf]; omega
    · have hlt' : ¬ (i : Int) < es.length := by omega
      have hie : i = es.length := by omega
      subst hie
      rw [List.take_length] at HTS
      go_wp2
      go_ret
      exact ⟨_, rfl, ⟨[], w, ts, (unhide HTS).symm, unhide HO, Nat.le_refl _⟩, (unhide HO).kept⟩

set_option maxRecDepth 100000 in
set_option maxHeartbeats 1000000 in
theorem twinBatch_any (f : Nat) (v : Value) (es : List En) (w : World) (h : RdN w v es) (hl : es.length ≤ 1048576) :
    Calls Tryz.prog 16 #[.agg #[.int .u64 f, v]] w fun r w' => ∃ v', r = .returned (.agg #[.int .u64 f, v']) ∧ NewN w.heap.size w' v' es ∧ Kept [] w w' := by
  have H := hide h
  obtain ⟨a1, m1, c1, _, _, rfl, _⟩ := h
  have HG := hide (((Kept.refl [] (w.alloc (.cells #[.int .u64 (f : Int), .slice a1 m1 c1] 37))).alloc (.cells #[.int .u64 0, .slice none 0 0] 37)).heap (heap_alloc_new w (.cells #[.int .u64 (f : Int), .slice a1 m1 c1] 37)) (by simp))
  have HZ := hide (alloc_at w (.cells #[.int .u64 (f : Int), .slice a1 m1 c1] 37) (.cells #[.int .u64 0, .slice none 0 0] 37))
  have HK0 := hide (((Kept.refl [] w).alloc (.cells #[.int .u64 (f : Int), .slice a1 m1 c1] 37)).alloc (.cells #[.int .u64 0, .slice none 0 0] 37))
  have HSZ := hide (show ((w.alloc (.cells #[.int .u64 (f : Int), .slice a1 m1 c1] 37)).alloc (.cells #[.int .u64 0, .slice none 0 0] 37)).heap.size = w.heap.size + 2 by simp)
  go_enter Tryz.func16, Tryz.ntmps16
  go_wp2_with fail
  obtain ⟨W, hW⟩ : ∃ W, (w.alloc (.cells #[.int .u64 (f : Int), .slice a1 m1 c1] 37)).alloc (.cells #[.int .u64 0, .slice none 0 0] 37) = W := ⟨_, rfl⟩
  rw [hW] at HG HZ HK0 HSZ ⊢
  clear hW
  have x0 : W.cell? ⟨w.heap.size, 0, none⟩ = some (.int .u64 (f : Int)) := by rw [cell_of_row _ _ _ _ _ _ (unhide HG)]; rfl
  have x1 : W.cell? ⟨w.heap.size, 1, none⟩ = some (.slice a1 m1 c1) := by rw [cell_of_row _ _ _ _ _ _ (unhide HG)]; rfl
  have HX0 := hide x0
  have HX1 := hide x1
  have HHW := hide (((unhide H).old (unhide HK0)).old (Kept.refl [] W).drew)
  have hne : w.heap.size ≠ w.heap.size + 1 := by omega
  go_region_held3 (fun w' => w'.cell? ⟨w.heap.size, 0, none⟩ = some (.int .u64 (f : Int)) ∧ w'.cell? ⟨w.heap.size, 1, none⟩ = some (.slice a1 m1 c1)) (go_keep) (first
    | (go_at_call 43; refine (twinEntries_any _ es _ (by exact unhide HHW) hl).mono ?_; rintro e w3 ⟨v3, rfl, r3, k3⟩; obtain ⟨a3, m3, c3, _, _, hu3, _⟩ := id r3.rdN; subst hu3; have HR3 := hide (show NewN W.heap.size w3 (.slice a3 m3 c3) es from r3); have K3 := (Kept.refl [] W).drew.trans k3 (by simp); have HK3 := hide K3; have y0 := K3.cell (unhide HX0) (by simp); have y1 := K3.cell (unhide HX1) (by simp); have HZ3 := hide (K3.heap (unhide HZ) (by simp)); have t0 := cell_of_row _ _ 0 _ _ _ (unhide HZ3); have t1 := cell_of_row _ _ 1 _ _ _ (unhide HZ3); have f0 := frozen_of_row _ _ 0 _ _ (unhide HZ3); have f1 := frozen_of_row _ _ 1 _ _ (unhide HZ3); clear K3 k3 r3))
  all_goals go_wp2
  all_goals
    refine bodyPost_ret (v := .agg #[.int .u64 (f : Int), .slice a3 m3 c3]) ?_ rfl ⟨.slice a3 m3 c3, rfl, ?_, ?_⟩
    · exact results_cell_row rfl _ _ (w.heap.size + 1) _ #[.int .u64 (f : Int), .slice a3 m3 c3] (0, 0) _ rfl (by exact eput2_heap (unhide HZ3) _ _) Tryz.underlying37 rfl Tryz.size_batch
    · have h7 := unhide HSZ
      exact ((unhide HR3).kept (eput2_kept (Kept.refl [w.heap.size + 1] w3) (w.heap.size + 1) (Or.inl (by simp)) _ _) (by simp; omega)).weak (by omega)
    · exact eput2_kept ((unhide HK0).trans (unhide HK3) (by simp)) (w.heap.size + 1) (Or.inr (by omega)) _ _
end Go.Proofs.YtckkalmhekfnhabGreatDoor
namespace Go.Proofs.YtckkalmhekfnhabGreatDoor
open Go.RowKit Go.BigFrame
set_option linter.unusedVariables false
set_option linter.unusedSimpArgs false

/-- Batches with the numbers that go on from i. -/
def numS : Nat → List (List En) → List (Nat × List En)
  | _, [] => []
  | i, es :: r => (i, es) :: numS ((i + es.length) % 18446744073709551616) r
def okS : Nat → List (List En) → Bool
  | _, [] => true
  | i, es :: r => decide (chkB i es = 0) && okS ((i + es.length) % 18446744073709551616) r
def runS (ts : List (Nat × List En)) : List Nat := ts.flatMap fun t => sbB t.1 t.2
/-- The places behind them. -/
def atS : Nat → List (Nat × List En) → List Nat
  | n, [] => []
  | n, t :: r => (n + (sbB t.1 t.2).length) :: atS (n + (sbB t.1 t.2).length) r
theorem runS_app (a b : List (Nat × List En)) : runS (a ++ b) = runS a ++ runS b := by simp [runS]
theorem runS_one (t : Nat × List En) : runS [t] = sbB t.1 t.2 := by simp [runS]
theorem runS_cons (t : Nat × List En) (r : List (Nat × List En)) : runS (t :: r) = sbB t.1 t.2 ++ runS r := by simp [runS]
theorem atS_snoc : ∀ (n : Nat) (D : List (Nat × List En)) (t : Nat × List En), atS n (D ++ [t]) = atS n D ++ [n + (runS (D ++ [t])).length]
  | n, [], t => by simp [atS, runS]
  | n, d :: D, t => by
    rw [List.cons_append, atS, atS_snoc _ D t, runS_cons, atS, List.length_append]
    simp; omega
theorem atS_len : ∀ (n : Nat) (D : List (Nat × List En)), (atS n D).length = D.length
  | _, [] => rfl
  | n, d :: D => by rw [atS, List.length_cons, atS_len _ D, List.length_cons]
theorem Tryz.infoI : (Tryz.prog.info? 3).map (fun i => (i.zero, i.size, i.bytes)) = some (some (.int .i64 0), 1, 8) := by kernel_rfl
def intC (xs : List Nat) : List Value := xs.map fun (x : Nat) => .int .i64 (x : Int)
theorem owns_neB {w : World} {b1 b2 : Nat} {e1 e2 : TypeId} {s1 s2 n1 n2 : Nat} {v1 v2 : Value} {x1 x2 : List Value} (h1 : w.ownsRow b1 e1 s1 v1 n1 x1) (h2 : w.ownsRow b2 e2 s2 v2 n2 x2) (he : e1 ≠ e2) : ∀ b, v1.ownBlock = some b → v2.ownBlock ≠ some b := by
  intro b hb hb2
  rcases h1.2 with ⟨rfl, _⟩ | ⟨g, cap, cur, rfl, _, hg, _⟩
  · simp [Value.ownBlock] at hb
  · rcases h2.2 with ⟨rfl, _⟩ | ⟨g', cap', cur', rfl, _, hg', _⟩
    · simp [Value.ownBlock] at hb2
    · simp only [Value.ownBlock, Option.some.injEq] at hb hb2
      subst hb
      subst hb2
      rw [hg] at hg'
      simp at hg'
      first | exact he hg'.2 | exact he hg'.2.1 | exact he hg'.1
/-- Batches and places that are owned, each batch with memory of its own. -/
structure LaA (w0 w : World) (av tv : Value) (ts : List (Nat × Value × List En)) (xs : List Nat) : Prop where
  own : w.ownsRow w0.heap.size 37 2 av ts.length (cellsB ts)
  ints : w.ownsRow w0.heap.size 3 1 tv xs.length (intC xs)
  rd : ∀ t ∈ ts, ∃ B C, C ≤ w.heap.size ∧ w0.heap.size ≤ B ∧ (∀ b, av.ownBlock = some b ∨ tv.ownBlock = some b → b < B ∨ C ≤ b) ∧ ∀ M w', Kept M w w' → (∀ x ∈ M, x < B ∨ C ≤ x) → RdN w' t.2.1 t.2.2
  sz : w0.heap.size ≤ w.heap.size
theorem LaA.pass {w0 w w' : World} {av tv : Value} {ts : List (Nat × Value × List En)} {xs : List Nat} (h : LaA w0 w av tv ts xs) (k : Kept [] w w') : LaA w0 w' av tv ts xs := by
  refine ⟨k.owns h.own (by simp), k.owns h.ints (by simp), fun t ht => ?_, Nat.le_trans h.sz k.size⟩
  obtain ⟨B, C, h1, h2, h3, h4⟩ := h.rd t ht
  exact ⟨B, C, Nat.le_trans h1 k.size, h2, h3, fun N w2 kN hN => h4 N w2 ((k.mono (M := N) (by simp)).trans kN (fun x hx => Or.inl hx)) hN⟩
theorem LaA.int {w0 w W : World} {av tv : Value} {ts : List (Nat × Value × List En)} {xs : List Nat} (h : LaA w0 w av tv ts xs) {x g n cap : Nat} (hn : n = xs.length + 1)
    (o : W.ownsRow w0.heap.size 3 1 (.slice (some ⟨g, 0, none⟩) n cap) n (intC xs ++ [.int .i64 (x : Int)])) (gr : w.grownBy W tv.ownBlock) (hg : tv.ownBlock = some g ∨ g = w.heap.size) :
    LaA w0 W av (.slice (some ⟨g, 0, none⟩) n cap) ts (xs ++ [x]) := by
  have kW : Kept tv.ownBlock.toList w W := ((Kept.refl _ w)).grown gr (by intro k hk; left; simp [hk])
  refine ⟨kW.owns h.own (fun b hb hm => owns_neB h.own h.ints (by decide) b hb (by simpa using hm)), by rw [List.length_append, List.length_singleton, ← hn]; simpa [intC] using o, fun t ht => ?_, Nat.le_trans h.sz kW.size⟩
  obtain ⟨B, C, h1, h2, h3, h4⟩ := h.rd t ht
  refine ⟨B, C, Nat.le_trans h1 kW.size, h2, fun b hb => ?_, fun N w2 kN hN => h4 (tv.ownBlock.toList ++ N) w2 ((kW.mono (M := tv.ownBlock.toList ++ N) (fun x hx => List.mem_append_left _ hx)).trans kN (fun x hx => Or.inl (by simp [hx]))) (fun x hx => ?_)⟩
  · rcases hb with hb | hb
    · exact h3 b (Or.inl hb)
    · simp only [Value.ownBlock, Option.some.injEq] at hb
      subst hb
      rcases hg with hg | hg
      · exact h3 _ (Or.inr hg)
      · omega
  · rcases List.mem_append.1 hx with hx | hx
    · exact h3 x (Or.inr (by simpa using hx))
    · exact hN x hx
theorem LaA.bat {w0 w W : World} {av tv : Value} {ts : List (Nat × Value × List En)} {xs : List Nat} (h : LaA w0 w av tv ts xs) {pl : Nat} {y : Value} {es : List En} {g n cap : Nat} (hn : n = ts.length + 1)
    (hy : ∃ B C, C ≤ w.heap.size ∧ w0.heap.size ≤ B ∧ (∀ b, av.ownBlock = some b ∨ tv.ownBlock = some b → b < B ∨ C ≤ b) ∧ ∀ M w', Kept M w w' → (∀ x ∈ M, x < B ∨ C ≤ x) → RdN w' y es)
    (o : W.ownsRow w0.heap.size 37 2 (.slice (some ⟨g, 0, none⟩) n cap) n (cellsB ts ++ [.int .u64 (pl : Int), y])) (gr : w.grownBy W av.ownBlock) (hg : av.ownBlock = some g ∨ g = w.heap.size) :
    LaA w0 W (.slice (some ⟨g, 0, none⟩) n cap) tv (ts ++ [(pl, y, es)]) xs := by
  have kW : Kept av.ownBlock.toList w W := ((Kept.refl _ w)).grown gr (by intro k hk; left; simp [hk])
  have key : ∀ t ∈ ts ++ [(pl, y, es)], ∃ B C, C ≤ w.heap.size ∧ w0.heap.size ≤ B ∧ (∀ b, av.ownBlock = some b ∨ tv.ownBlock = some b → b < B ∨ C ≤ b) ∧ ∀ M w', Kept M w w' → (∀ x ∈ M, x < B ∨ C ≤ x) → RdN w' t.2.1 t.2.2 := by
    intro t ht
    rcases List.mem_append.1 ht with ht | ht
    · exact h.rd t ht
    · rw [List.mem_singleton] at ht; subst ht; exact hy
  refine ⟨by rw [cellsB_app, List.length_append, List.length_singleton, ← hn]; exact o, kW.owns h.ints (fun b hb hm => owns_neB h.ints h.own (by decide) b hb (by simpa using hm)), fun t ht => ?_, Nat.le_trans h.sz kW.size⟩
  obtain ⟨B, C, h1, h2, h3, h4⟩ := key t ht
  refine ⟨B, C, Nat.le_trans h1 kW.size, h2, fun b hb => ?_, fun N w2 kN hN => h4 (av.ownBlock.toList ++ N) w2 ((kW.mono (M := av.ownBlock.toList ++ N) (fun x hx => List.mem_append_left _ hx)).trans kN (fun x hx => Or.inl (by simp [hx]))) (fun x hx => ?_)⟩
  · rcases hb with hb | hb
    · simp only [Value.ownBlock, Option.some.injEq] at hb
      subst hb
      rcases hg with hg | hg
      · exact h3 _ (Or.inl hg)
      · omega
    · exact h3 b (Or.inr hb)
  · rcases List.mem_append.1 hx with hx | hx
    · exact h3 x (Or.inl (by simpa using hx))
    · exact hN x hx
theorem LaA.rdB {w0 w : World} {av tv : Value} {ts : List (Nat × Value × List En)} {xs : List Nat} (h : LaA w0 w av tv ts xs) : RdB w av (ts.map fun t => (t.1, t.2.2)) :=
  OwnB.rdB (w0 := w0) ⟨h.own, fun t ht => by obtain ⟨B, C, h1, h2, h3, h4⟩ := h.rd t ht; exact ⟨B, C, h1, h2, fun b hb => h3 b (Or.inl hb), h4⟩, h.sz⟩
/-- The slice value v reads as these numbers. -/
def RdJ (w : World) (v : Value) (xs : List Nat) : Prop := ∃ (b c : Nat), v = .slice (some ⟨b, 0, none⟩) xs.length c ∧ xs.length ≤ c ∧ ∀ i (h : i < xs.length), w.cell? ⟨b, i, none⟩ = some (.int .i64 (xs[i] : Int))
theorem LaA.rdJ {w0 w : World} {av tv : Value} {ts : List (Nat × Value × List En)} {xs : List Nat} (h : LaA w0 w av tv ts xs) (hp : 0 < xs.length) : RdJ w tv xs := by
  rcases h.ints.2 with ⟨rfl, h0⟩ | ⟨g, cap, cur, rfl, _, hg, hc, hm', hs, ht⟩
  · omega
  · refine ⟨g, cap, rfl, hc, fun i hi => ?_⟩
    have c1 := h.ints.cells (g := g) rfl i (.int .i64 (xs[i] : Int)) (by simp [intC, hi])
    rw [Addr.add_mid, Nat.zero_add] at c1
    exact c1
theorem pushI (w : World) (base : Nat) (v : Value) (xs : List Nat) (x : Nat) (H : Nat) (h : w.ownsRow base 3 1 v xs.length (intC xs)) (hnew : w.heap[H]? = some (.cells #[.int .i64 (x : Int)] 3 (0, 0))) (hl : xs.length + 1 ≤ 1000000000000) (hb : base ≤ w.heap.size) :
    ∃ g cap w1, (Builtin.append_ #[65, 65] 65 #[v, .slice (some ⟨H, 0, none⟩) 1 1]).run Tryz.prog w = .ok (.slice (some ⟨g, 0, none⟩) (xs.length + 1) cap) w1 ∧
      w1.ownsRow base 3 1 (.slice (some ⟨g, 0, none⟩) (xs.length + 1) cap) (xs.length + 1) (intC xs ++ [.int .i64 (x : Int)]) ∧ w.grownBy w1 v.ownBlock ∧ (v.ownBlock = some g ∨ g = w.heap.size) := by
  obtain ⟨i0, hi, hz0, hz1, hz2⟩ := info_parts Tryz.infoI
  obtain ⟨g, cap, w1, hr, hown, hgrow, hat, hlt⟩ := run_append_lies (P := Tryz.prog) w 65 65 base 3 i0 (.int .i64 0) 1 8 Tryz.underlying65 hi hz0 hz1 hz2 rfl (by decide)
    v xs.length (intC xs) h ⟨H, 0, none⟩ 1 1 [.int .i64 (x : Int)] rfl (World.news_of_block hnew) (by intro u hu; simp at hu; subst hu; rfl) (by decide) (by unfold maxLen; omega) (by omega) hb _ rfl
  exact ⟨g, cap, w1, hr, hown, hgrow, hat⟩
theorem wpList_pushI {ops : Array Oper} {rest : List Oper} {o : Oper} {a : Act} {Q : Exit → Act → World → Prop} (hgd : o.guard = none) (s x : Operand)
    (ho : o.op = .call { callee := .builtin .append, args := #[s, x], argTypes := #[65, 65] }) (hty : o.type = 65)
    (w : World) (base : Nat) (v : Value) (xs : List Nat) (y : Nat) (H : Nat) (h : w.ownsRow base 3 1 v xs.length (intC xs)) (hnew : w.heap[H]? = some (.cells #[.int .i64 (y : Int)] 3 (0, 0))) (hl : xs.length + 1 ≤ 1000000000000) (hb : base ≤ w.heap.size)
    (hs : a.eval s = v) (hx : a.eval x = .slice (some ⟨H, 0, none⟩) 1 1)
    (hK : ∀ g cap w1, Hid (w1.ownsRow base 3 1 (.slice (some ⟨g, 0, none⟩) (xs.length + 1) cap) (xs.length + 1) (intC xs ++ [.int .i64 (y : Int)])) → Hid (w.grownBy w1 v.ownBlock) → Hid (v.ownBlock = some g ∨ g = w.heap.size) →
      wpList Tryz.prog ops Q rest (a.put o.dst (.slice (some ⟨g, 0, none⟩) (xs.length + 1) cap)) w1) :
    wpList Tryz.prog ops Q (o :: rest) a w := by
  obtain ⟨g, cap, w1, hrun, h2, h3, h4⟩ := pushI w base v xs y H h hnew hl hb
  refine wpList_plain hgd fun K hK' => ?_
  unfold Oper.wp execOp
  simp only [ho, hty, resolve, invoke, builtin, Sem.run_bind, Sem.run_pure, Result.andThen_ok, List.map_toArray, List.map_cons, List.map_nil, hs, hx, hrun]
  exact hK' _ _ (hK g cap w1 h2 h3 h4)
end Go.Proofs.YtckkalmhekfnhabGreatDoor
namespace Go.Proofs.YtckkalmhekfnhabGreatDoor
open Go.RowKit Go.BigFrame
set_option linter.unusedVariables false
set_option linter.unusedSimpArgs false

def ldOk (c : Nat) (z : Int) (L : List (List En)) : Bool := wideB z && okS c L
theorem runS_snoc_len {D : List (Nat × List En)} {i : Nat} {es : List En} {n : Nat} (h : (runS D).length ≤ 30018 * n) (hc : chkB i es = 0) (hi : i < 18446744073709551616) : (runS (D ++ [(i, es)])).length ≤ 30018 * (n + 1) := by
  have := batB_lenS hc hi
  rw [runS_app, List.length_append, runS_one, sbB_len hc]
  omega

end Go.Proofs.YtckkalmhekfnhabGreatDoor
namespace Go.Proofs.YtckkalmhekfnhabGreatDoor
open Go.RowKit Go.BigFrame
set_option linter.unusedVariables false
set_option linter.unusedSimpArgs false

theorem run_loadS {P : Program} {o : Oper} {a : Act} (ty : TypeId) (x : Operand) (ho : o.op = .load ty x) (ad : Addr) (hx : a.eval x = .pointer (some ad)) (w : World) (v : Value) (e : TypeId) (hu : P.underlying ty = some (.slice e)) (hc : w.cell? ad = some v) :
    (execOp a.eval o).run P w = .ok (.value v) w := by
  have h2 : (isAgg ty).run P w = .ok false w := by
    unfold isAgg
    rw [Sem.run_bind, run_underlying hu w]; simp
  unfold execOp
  simp only [ho, hx, Instr.loadAt, Instr.sureAddr, Sem.run_bind, Sem.run_pure, Result.andThen_ok, loadVar, h2]
  simp [go_sem, hc]
theorem range4 {w : World} {g : Nat} {x0 x1 x2 x3 : Value} (h : w.cell? ⟨g, 0, none⟩ = some x0 ∧ w.cell? ⟨g, 1, none⟩ = some x1 ∧ w.cell? ⟨g, 2, none⟩ = some x2 ∧ w.cell? ⟨g, 3, none⟩ = some x3) : w.rangeAt g 0 [x0, x1, x2, x3] := by
  intro j u hj
  match j with
  | 0 => simp only [List.getElem?_cons_zero, Option.some.injEq] at hj; subst hj; exact h.1
  | 1 => simp only [List.getElem?_cons_succ, List.getElem?_cons_zero, Option.some.injEq] at hj; subst hj; exact h.2.1
  | 2 => simp only [List.getElem?_cons_succ, List.getElem?_cons_zero, Option.some.injEq] at hj; subst hj; exact h.2.2.1
  | 3 => simp only [List.getElem?_cons_succ, List.getElem?_cons_zero, Option.some.injEq] at hj; subst hj; exact h.2.2.2
  | j + 4 => simp at hj
theorem range2 {w : World} {g off : Nat} {x0 x1 : Value} (h0 : w.cell? ⟨g, off, none⟩ = some x0) (h1 : w.cell? ⟨g, off + 1, none⟩ = some x1) : w.rangeAt g off [x0, x1] := by
  intro j u hj
  match j with
  | 0 => simp only [List.getElem?_cons_zero, Option.some.injEq] at hj; subst hj; exact h0
  | 1 => simp only [List.getElem?_cons_succ, List.getElem?_cons_zero, Option.some.injEq] at hj; subst hj; exact h1
  | j + 2 => simp at hj
theorem RdB.at {w : World} {ao : Option Addr} {n c : Nat} {bs : List (Nat × List En)} (h : RdB w (.slice ao n c) bs) (i : Nat) (hi : i < bs.length) : ∃ b off y, ao = some ⟨b, off, none⟩ ∧ w.cell? ⟨b, off + i * 2, none⟩ = some (.int .u64 (bs[i].1 : Int)) ∧ w.cell? ⟨b, off + i * 2 + 1, none⟩ = some y ∧ RdN w y bs[i].2 := by
  obtain ⟨ao', cap, ts, h1, h2, h3, h4, h5, h6⟩ := h
  cases h1
  have hl : bs.length = ts.length := by rw [h2]; simp
  obtain ⟨b, off, rfl, hc⟩ := h6 (by omega)
  have hi' : i < ts.length := by omega
  obtain ⟨c1, c2⟩ := hc i hi'
  have e1 : bs[i] = (ts[i].1, ts[i].2.2) := by simp [h2]
  exact ⟨b, off, ts[i].2.1, rfl, by rw [e1]; exact c1, c2, by rw [e1]; exact h5 _ (List.getElem_mem _)⟩
theorem RdB.shape {w : World} {v : Value} {bs : List (Nat × List En)} (h : RdB w v bs) : ∃ ao c, v = .slice ao bs.length c ∧ bs.length ≤ c ∧ c ≤ 9223372036854775807 := by
  obtain ⟨ao, cap, ts, rfl, h2, h3, h4, _⟩ := h
  have hl : bs.length = ts.length := by rw [h2]; simp
  exact ⟨ao, cap, by rw [hl], by omega, h4⟩

end Go.Proofs.YtckkalmhekfnhabGreatDoor
namespace Go.Proofs.YtckkalmhekfnhabGreatDoor
open Go.RowKit Go.BigFrame
set_option linter.unusedVariables false
set_option linter.unusedSimpArgs false

set_option maxRecDepth 100000 in
set_option maxHeartbeats 1000000 in
theorem tsameEntry_any (a b : En) (ka va kb vb : Value) (w : World) (ha : OkE w a ka va) (hb : OkE w b kb vb) :
    Calls Tryz.prog 49 #[.agg (enC a ka va), .agg (enC b kb vb)] w fun r w' => r = .returned (.bool (decide (a = b))) ∧ Kept [] w w' := by
  rw [en_eq]
  obtain ⟨k, key, val⟩ := a
  obtain ⟨k', key', val'⟩ := b
  have HA := hide ha
  have HB := hide hb
  clear ha hb
  simp only
  obtain ⟨X, hX⟩ : ∃ X, decide (key = key') = X := ⟨_, rfl⟩
  obtain ⟨Y, hY⟩ : ∃ X, decide (val = val') = X := ⟨_, rfl⟩
  rw [hX, hY]
  have HX := hide hX
  have HY := hide hY
  clear hX hY
  unfold enC
  simp only
  have HG := hide (((Kept.refl [] (w.alloc (.cells #[.int .u8 (k : Int), ka, va] 44))).alloc (.cells #[.int .u8 (k' : Int), kb, vb] 44)).heap (heap_alloc_new w (.cells #[.int .u8 (k : Int), ka, va] 44)) (by simp))
  have HH := hide (alloc_at w (.cells #[.int .u8 (k : Int), ka, va] 44) (.cells #[.int .u8 (k' : Int), kb, vb] 44))
  have HK0 := hide (((Kept.refl [] w).alloc (.cells #[.int .u8 (k : Int), ka, va] 44)).alloc (.cells #[.int .u8 (k' : Int), kb, vb] 44))
  go_enter Tryz.func49, Tryz.ntmps49
  by_cases hk : k = k'
  · have e1 : ((k : Int) == (k' : Int)) = true := by rw [hk]; simp
    rw [decide_eq_true hk]
    have HKE := hide hk
    clear hk
    go_wp2_with fail
    refine Calls.mono (tsame_any _ _ key key' _ ((unhide HA).key.old (unhide HK0) (by simp)) ((unhide HB).key.old (unhide HK0) (by simp))) ?_
    rintro r w1 ⟨rfl, rfl⟩
    rw [unhide HX]
    clear HX
    have HK1 := HK0
    have HA1 := hide ((unhide HA).val.old (unhide HK1) (by simp))
    have HB1 := hide ((unhide HB).val.old (unhide HK1) (by simp))
    cases X with
    | true =>
      go_wp2_with fail
      refine Calls.mono (tsame_any _ _ val val' _ (unhide HA1) (unhide HB1)) ?_
      rintro r w2 ⟨rfl, rfl⟩
      rw [unhide HY]
      clear HY
      go_wp2
      go_ret
      exact ⟨by simp, unhide HK0⟩
    | false =>
      go_wp2
      go_ret
      exact ⟨by simp, unhide HK1⟩
  · have e1 : ((k : Int) == (k' : Int)) = false := by rw [beq_eq_false_iff_ne]; omega
    rw [decide_eq_false hk]
    clear hk
    go_wp2
    go_ret
    exact ⟨by simp, unhide HK0⟩

set_option maxRecDepth 100000 in
set_option maxHeartbeats 1000000 in
theorem twidth_any (n : Nat) (w : World) (hn : n < 256) :
    Calls Tryz.prog 23 #[.int .u8 n] w fun e w' => e = .returned (.int .i64 ((1 + n % 32 : Nat) : Int)) ∧ w' = w := by
  have h1 : IntKind.i64.wrap (n : Int) = n := by simp [IntKind.wrap, IntKind.signed, IntKind.bits]; omega
  obtain ⟨y, hy⟩ : ∃ y, n % 32 = y := ⟨_, rfl⟩
  have hy2 : (n : Int) % 32 = y := by omega
  have hy3 : (n : Int).tmod 32 = y := by rw [Int.tmod_eq_emod_of_nonneg (by omega)]; omega
  have hy32 : (y : Int) < 32 := by omega
  rw [hy]
  have HY := hide hy
  clear hy
  go_enter Tryz.func23, Tryz.ntmps23
  go_wp2
  go_ret
  exact ⟨by congr 2, rfl⟩

theorem rdN_own {w : World} {base : Nat} {v : Value} {ts : List (En × Value × Value)} (own : w.ownsRow base 44 3 v ts.length (cellsN ts)) (ok : ∀ t ∈ ts, OkE w t.1 t.2.1 t.2.2) : RdN w v (ts.map (·.1)) := by
  rcases own.2 with ⟨rfl, h0⟩ | ⟨g, cap, cur, rfl, _, hg, hc, hm', hs, ht⟩
  · have : ts = [] := List.eq_nil_of_length_eq_zero h0
    subst this
    exact RdN.nil w
  · refine ⟨some ⟨g, 0, none⟩, ts.length, cap, fun i => (ts.getD i (⟨0, [], []⟩, undef, undef)).2.1, fun i => (ts.getD i (⟨0, [], []⟩, undef, undef)).2.2, rfl, by simp, hc, by unfold maxLen at hm'; omega, fun i hi => ?_, fun _ => ⟨g, 0, rfl, fun i hi => ?_⟩⟩
    · have hi' : i < ts.length := by simpa using hi
      have h9 := ok ts[i] (List.getElem_mem hi')
      rw [List.getElem_map]
      simp only [List.getD_eq_getElem?_getD, List.getElem?_eq_getElem hi', Option.getD_some]
      exact h9
    · have hi' : i < ts.length := by simpa using hi
      have hx := cellsN_get ts i hi'
      have c0 := own.cells (g := g) rfl (3 * i) _ hx.1
      have c1 := own.cells (g := g) rfl (3 * i + 1) _ hx.2.1
      have c2 := own.cells (g := g) rfl (3 * i + 2) _ hx.2.2
      rw [Addr.add_mid] at c0 c1 c2
      rw [List.getElem_map]
      simp only [List.getD_eq_getElem?_getD, List.getElem?_eq_getElem hi', Option.getD_some]
      intro j v hv
      have hj : j < 3 := (List.getElem?_eq_some_iff.1 hv).1
      rcases (by omega : j = 0 ∨ j = 1 ∨ j = 2) with rfl | rfl | rfl
      · rw [show 0 + i * 3 + 0 = 0 + 3 * i by omega, c0]; exact hv
      · rw [show 0 + i * 3 + 1 = 0 + (3 * i + 1) by omega, c1]; exact hv
      · rw [show 0 + i * 3 + 2 = 0 + (3 * i + 2) by omega, c2]; exact hv
end Go.Proofs.YtckkalmhekfnhabGreatDoor
namespace Go.Proofs.YtckkalmhekfnhabGreatDoor
open Go.RowKit Go.BigFrame
set_option linter.unusedVariables false
set_option linter.unusedSimpArgs false

theorem chkB_aw : chkB 5 [⟨1, [107], [118]⟩] = 0 := by decide
theorem sbB_aw : (sbB 5 [⟨1, [107], [118]⟩]).length = 25 := by
  rw [sbB_len chkB_aw]
  unfold batB entB enB
  simp [uv_lt]
theorem byN_aw : byN [⟨1, [107], [118]⟩] := by
  intro e he
  rw [List.mem_singleton] at he
  subst he
  exact ⟨by decide, by decide, by decide⟩
theorem RdB.at0 {w : World} {v : Value} {f : Nat} {es : List En} {r : List (Nat × List En)} (h : RdB w v ((f, es) :: r)) : ∃ b off c y, v = .slice (some ⟨b, off, none⟩) (r.length + 1) c ∧ r.length + 1 ≤ c ∧ w.cell? ⟨b, off, none⟩ = some (.int .u64 (f : Int)) ∧ w.cell? ⟨b, off + 1, none⟩ = some y ∧ RdN w y es := by
  obtain ⟨ao, cap, ts, h1, h2, h3, h4, h5, h6⟩ := h
  have hl : ts.length = r.length + 1 := by have := congrArg List.length h2; simpa using this.symm
  obtain ⟨b, off, rfl, hc⟩ := h6 (by omega)
  have h0 := hc 0 (by omega)
  cases ts with
  | nil => simp at hl
  | cons t r' =>
    simp only [List.map_cons, List.cons.injEq, Prod.mk.injEq] at h2
    refine ⟨b, off, cap, t.2.1, by rw [h1, hl], by omega, ?_, ?_, ?_⟩
    · have := h0.1; simp only [Nat.zero_mul, Nat.add_zero, List.getElem_cons_zero] at this; rw [this, h2.1.1]
    · have := h0.2; simp only [Nat.zero_mul, Nat.add_zero, List.getElem_cons_zero] at this; exact this
    · rw [h2.1.2]; exact h5 t (by simp)

set_option maxRecDepth 100000 in
set_option maxHeartbeats 4000000 in
theorem sawake_any (w : World) : Calls Tryz.prog 6 #[] w fun r w' => r = .returned (.bool true) ∧ Kept [] w w' := by
  go_enter Tryz.func6, Tryz.ntmps6
  go_wp2_with fail
  refine Calls.mono (number7_any _) ?_
  rintro r w1 ⟨rfl, k1⟩
  have HK1 := hide k1
  clear k1
  go_wp2_with fail
  refine Calls.mono (name7_any _) ?_
  rintro r w2 ⟨rfl, hw2⟩
  subst w2
  have heq : (seg7.toList == [115, 101, 103, 45, 48, 48, 48, 48, 48, 48, 48, 48, 48, 48, 48, 48, 48, 48, 48, 48, 48, 48, 48, 55]) = true := by rw [ba_toListS]; decide
  have hc1 := Lib.run_convert_bytes_const (P := Tryz.prog) w1 29 5 #[.int .u8 107] 1 1 Tryz.underlying29 Tryz.underlying5
  have hc2 := Lib.run_convert_bytes_const (P := Tryz.prog) (w1.alloc (.cells #[.int .u8 107] 5 (1, 2))) 29 5 #[.int .u8 118] 1 1 Tryz.underlying29 Tryz.underlying5
  rw [show (w1.alloc (.cells #[.int .u8 107] 5 (1, 2))).heap.size = w1.heap.size + 1 from Array.size_push _] at hc2
  have hc3 : #[Value.int IntKind.u8 107].size = 1 := rfl
  have hc4 : #[Value.int IntKind.u8 118].size = 1 := rfl
  rw [hc3] at hc1
  rw [hc4] at hc2
  clear hc3 hc4
  go_wp2_with fail
  clear hc1 hc2 heq
  have HW0 := hide (heap_alloc3e w1 (.cells #[.int .u8 107] 5 (1, 2)) (.cells #[.int .u8 118] 5 (1, 2)) (.cells #[.int .u8 1, .slice (some ⟨w1.heap.size, 0, none⟩) 1 1, .slice (some ⟨w1.heap.size + 1, 0, none⟩) 1 1] 44))
  have HK0 := hide (((((Kept.refl [] w1).alloc (.cells #[.int .u8 107] 5 (1, 2))).alloc (.cells #[.int .u8 118] 5 (1, 2))).alloc (.cells #[.int .u8 1, .slice (some ⟨w1.heap.size, 0, none⟩) 1 1, .slice (some ⟨w1.heap.size + 1, 0, none⟩) 1 1] 44)))
  have HSZ := hide (by simp : (((w1.alloc (.cells #[.int .u8 107] 5 (1, 2))).alloc (.cells #[.int .u8 118] 5 (1, 2))).alloc (.cells #[.int .u8 1, .slice (some ⟨w1.heap.size, 0, none⟩) 1 1, .slice (some ⟨w1.heap.size + 1, 0, none⟩) 1 1] 44)).heap.size = w1.heap.size + 1 + 1 + 1)
  obtain ⟨W0, hW0⟩ : ∃ W, ((w1.alloc (.cells #[.int .u8 107] 5 (1, 2))).alloc (.cells #[.int .u8 118] 5 (1, 2))).alloc (.cells #[.int .u8 1, .slice (some ⟨w1.heap.size, 0, none⟩) 1 1, .slice (some ⟨w1.heap.size + 1, 0, none⟩) 1 1] 44) = W := ⟨_, rfl⟩
  rw [hW0] at HW0 HK0 HSZ ⊢
  clear hW0
  have HB0 := hide (heap_alloc_new W0 (.cells #[.int .u64 5, .slice (some ⟨w1.heap.size + 1 + 1, 0, none⟩) 1 1] 37))
  rw [unhide HSZ] at HB0
  have HN0 := hide ((RdN.one (e := ⟨1, [107], [118]⟩) (unhide HW0).2.2 ⟨by show (1 : Nat) < 256; omega, rd_row [107] (unhide HW0).1 rfl (by decide) 1 rfl (by decide), rd_row [118] (unhide HW0).2.1 rfl (by decide) 1 rfl (by decide)⟩).old ((Kept.refl [] W0).alloc (.cells #[.int .u64 5, .slice (some ⟨w1.heap.size + 1 + 1, 0, none⟩) 1 1] 37)))
  have HKB := hide (((unhide HK1).trans (unhide HK0) (by simp)).alloc (.cells #[.int .u64 5, .slice (some ⟨w1.heap.size + 1 + 1, 0, none⟩) 1 1] 37))
  obtain ⟨W1, hW1⟩ : ∃ W, W0.alloc (.cells #[.int .u64 5, .slice (some ⟨w1.heap.size + 1 + 1, 0, none⟩) 1 1] 37) = W := ⟨_, rfl⟩
  rw [hW1] at HB0 HN0 HKB ⊢
  clear hW1 HW0 HK0 HSZ HK1
  refine Calls.mono (encodeHead_any 3 2 5 4 W1 (by decide) (by decide)) ?_
  rintro r w2 ⟨v2, rfl, n2, k2⟩
  rw [show ehE 4 = 0 by decide]
  have HR2 := hide n2.1
  have hl2 := ehB_len (a := 3) (b := 2) (c := 5) (z := 4) (by decide)
  obtain ⟨a2, m2, c2, hu2, hm2, _⟩ := id n2.1
  subst hu2
  rw [hl2] at hm2
  subst hm2
  have HB2 := hide (k2.heap (unhide HB0) (by simp))
  have HN2 := hide ((unhide HN0).old k2)
  have HK2 := hide ((unhide HKB).trans k2 (by simp))
  clear n2 k2 hl2 HB0 HN0 HKB
  obtain ⟨d0, d1⟩ := bcells (unhide HB2)
  go_wp2_with fail
  refine Calls.mono (segBatch_any 5 _ [⟨1, [107], [118]⟩] w2 (by decide) (unhide HN2)) ?_
  rintro r w3 ⟨v3, rfl, n3, k3⟩
  rw [chkB_aw]
  have HR3 := hide n3.1
  obtain ⟨a3, m3, c3, hu3, hm3, _⟩ := id n3.1
  subst hu3
  rw [sbB_aw] at hm3
  subst hm3
  have HR23 := hide ((unhide HR2).old k3 (by simp))
  have HB3 := hide (k3.heap (unhide HB2) (by simp))
  have HN3 := hide ((unhide HN2).old k3)
  have HK3 := hide ((unhide HK2).trans k3 (by simp))
  clear n3 k3 d0 d1 HB2 HN2 HK2 HR2
  go_wp2_with fail
  refine Calls.mono (join_any _ _ _ _ w3 (unhide HR23) (unhide HR3) (by rw [ehB_len (by decide), sbB_aw]; decide)) ?_
  rintro r w4 ⟨v4, rfl, r4, k4, _⟩
  have HR4 := hide r4
  have HB4 := hide (k4.heap (unhide HB3) (by simp))
  have HN4 := hide ((unhide HN3).old k4)
  have HK4 := hide ((unhide HK3).trans k4 (by simp))
  clear r4 k4 HB3 HN3 HK3
  go_wp2_with fail
  obtain ⟨s1, s2, s3, s4⟩ := seg_one (a := 3) (b := 2) (c := 5) (z := 4) (es := [⟨1, [107], [118]⟩]) (by decide) (by decide) (by decide) (by decide) chkB_aw byN_aw
  have s5 : hdC (ehB 3 2 5 4 ++ sbB 5 [⟨1, [107], [118]⟩]) = ⟨3, 2, 5, 4⟩ := by unfold hdC; rw [s1]; rfl
  rw [sbB_aw] at s3
  refine Calls.mono (read_any _ _ w4 (unhide HR4) (by rw [List.length_append, ehB_len (by decide), sbB_aw]; decide)) ?_
  rintro r w5 ⟨v5, rfl, r5, k5, _⟩
  rw [s2] at r5
  rw [s3, s4, s5]
  clear s1 s2 s3 s4 s5
  obtain ⟨b5, o5, c5, y5, rfl, hc5, e0, e1, hy⟩ := r5.at0
  obtain ⟨ay, ny, cy, _, _, hyy, _⟩ := id hy
  subst hyy
  have HY := hide hy
  have HB5 := hide (k5.heap (unhide HB4) (by simp))
  have HN5 := hide ((unhide HN4).old k5)
  have HK5 := hide ((unhide HK4).trans k5 (by simp))
  have HE := hide (And.intro e0 e1)
  clear r5 k5 hy e0 e1 HB4 HN4 HK4
  simp only [List.length_nil, Nat.zero_add, Nat.reduceAdd, Int.cast_ofNat_Int]
  have HS6 := hide (heap_alloc_new w5 (.cells #[.int .u64 3, .int .u64 2, .int .u64 5, .int .i64 4, .slice (some ⟨b5, o5, none⟩) 1 c5, .int .i64 73] 40))
  have k6 := (Kept.refl [] w5).alloc (.cells #[.int .u64 3, .int .u64 2, .int .u64 5, .int .i64 4, .slice (some ⟨b5, o5, none⟩) 1 c5, .int .i64 73] 40)
  have HB6 := hide (k6.heap (unhide HB5) (by simp))
  have HN6 := hide ((unhide HN5).old k6)
  have HY6 := hide ((unhide HY).old k6)
  have HK6 := hide ((unhide HK5).trans k6 (by simp))
  have HE6 := hide (And.intro (k6.cell (unhide HE).1 (by simp)) (k6.cell (unhide HE).2 (by simp)))
  clear k6 HB5 HN5 HY HK5 HE
  obtain ⟨x0, x1, x2, x3, x4, x5⟩ := scells (unhide HS6)
  go_upto_region 12 with fail
  obtain ⟨W6, hW6⟩ : ∃ W, w5.alloc (.cells #[.int .u64 3, .int .u64 2, .int .u64 5, .int .i64 4, .slice (some ⟨b5, o5, none⟩) 1 c5, .int .i64 73] 40) = W := ⟨_, rfl⟩
  rw [hW6] at HS6 HB6 HN6 HY6 HK6 HE6 x0 x1 x2 x3 x4 x5 ⊢
  clear hW6
  have HRG := hide (fun j u hj => by
    match j with
    | 0 => simp only [List.getElem?_cons_zero, Option.some.injEq] at hj; subst hj; exact (unhide HE6).1
    | 1 => simp only [List.getElem?_cons_succ, List.getElem?_cons_zero, Option.some.injEq] at hj; subst hj; exact (unhide HE6).2
    | j + 2 => simp at hj : W6.rangeAt b5 o5 [.int .u64 5, .slice ay ny cy])
  refine wp_quiet_tail 5 (by kernel_rfl) (by kernel_rfl) ?_
  simp only [List.take_succ_cons, List.take_zero, List.drop_succ_cons, List.drop_zero]
  repeat (go_big_quiet_step (fail))
  refine wpQuiet_mid rfl 37 _ rfl b5 o5 rfl [.int .u64 5, .slice ay ny cy] _ (fun w' hw' => by obtain ⟨n, rfl⟩ := hw'; exact unhide HRG) Tryz.underlying37 rfl Tryz.size_batch9 ?_
  simp only [Act.put, List.setIfInBounds_toArray, List.set_cons_succ, List.set_cons_zero]
  refine wpQuiet_load_row rfl 37 _ rfl (w1.heap.size + 1 + 1 + 1) rfl 37 #[.int .u64 5, .slice (some ⟨w1.heap.size + 1 + 1, 0, none⟩) 1 1] (0, 0) _ (fun w' hw' => by obtain ⟨n, rfl⟩ := hw'; exact unhide HB6) Tryz.underlying37 rfl Tryz.size_batch9 ?_
  simp only [Act.put, List.setIfInBounds_toArray, List.set_cons_succ, List.set_cons_zero]
  refine wpQuiet_nil ?_
  rintro _ ⟨n6, rfl⟩
  clear x0 x1 x2 x3 x4 x5
  go_wp2_with fail
  refine Calls.mono (sameBatch_any 5 5 _ _ [⟨1, [107], [118]⟩] [⟨1, [107], [118]⟩] _ ((unhide HY6).old ((Kept.refl [] W6).drewN n6)) ((unhide HN6).old ((Kept.refl [] W6).drewN n6))) ?_
  rintro r w7 ⟨rfl, k7⟩
  have HK7 := hide (((unhide HK6).drewN n6).trans k7 (by simp))
  clear k7
  rw [show (decide ((5 : Nat) = 5) && decide ([(⟨1, [107], [118]⟩ : En)] = [⟨1, [107], [118]⟩])) = true by decide]
  go_wp2
  go_ret
  exact ⟨rfl, unhide HK7⟩
end Go.Proofs.YtckkalmhekfnhabGreatDoor
namespace Go.Proofs.YtckkalmhekfnhabGreatDoor
open Go.RowKit Go.BigFrame
set_option linter.unusedVariables false
set_option linter.unusedSimpArgs false

set_option maxRecDepth 100000 in
set_option maxHeartbeats 2000000 in
theorem refLaid_any (pl : Nat) (v : Value) (p : List Nat) (w : World) (h : Rd w v p) (hpl : pl < 18446744073709551616) (hl : p.length ≤ 100000000) :
    Calls Tryz.prog 75 #[.int .u64 pl, v] w fun e w' => ∃ v', e = .returned v' ∧ Rd w' v' (frB pl p) ∧ Kept [] w w' ∧ ∀ x ∈ blk v', w.heap.size ≤ x := by
  have H := hide h
  obtain ⟨a1, n1, c1, rfl, hn1, hc1, ⟨hc2, hc3⟩, _⟩ := id h
  subst hn1
  clear h
  go_enter Tryz.func75, Tryz.ntmps75
  go_wp2_with fail
  refine Calls.mono (refWide_any p.length 4 _ (by omega) (by decide)) ?_
  rintro e w1 ⟨rfl, k1, g1⟩
  have HK1 := hide k1
  have HR1 := hide (rd_fresh g1 (wide_byte _ _) (by rw [wide_len]; omega))
  rw [wide_len] at HR1
  clear k1 g1
  go_wp2_with fail
  refine Calls.mono (refWide_any pl 8 _ hpl (by decide)) ?_
  rintro e w2 ⟨rfl, k2, g2⟩
  have HK2 := hide ((unhide HK1).trans k2 (by simp))
  have HR2 := hide (rd_fresh g2 (wide_byte _ _) (by rw [wide_len]; omega))
  rw [wide_len] at HR2
  have HR1' := hide ((unhide HR1).old k2 (by simp))
  clear k2 g2
  go_wp2_with fail
  refine Calls.mono (join_any _ _ _ _ w2 (unhide HR1') (unhide HR2) (by simp [wide_len])) ?_
  rintro e w3 ⟨v3, rfl, r3, k3, _⟩
  have HK3 := hide ((unhide HK2).trans k3 (by simp))
  have HR3 := hide r3
  clear r3 k3
  go_wp2_with fail
  refine Calls.mono (join_any _ _ _ p w3 (unhide HR3) ((unhide H).old (unhide HK3) (by simp)) (by simp [wide_len]; omega)) ?_
  rintro e w4 ⟨v4, rfl, r4, k4, _⟩
  have HK4 := hide ((unhide HK3).trans k4 (by simp))
  have HR4 := hide r4
  have HR3' := hide ((unhide HR3).old k4 (by simp))
  clear r4 k4
  go_wp2_with fail
  refine Calls.mono (rsum_any v4 _ w4 (unhide HR4)) ?_
  rintro e w5 ⟨rfl, rfl⟩
  have hs : upd 0 (wide p.length 4 ++ wide pl 8 ++ p) = sumF pl p := by simp [sumF, txF, List.append_assoc]
  rw [hs]
  have hsl : sumF pl p < 4294967296 := sumF_lt (unhide H).byte
  clear hs
  obtain ⟨S, hS⟩ : ∃ S, sumF pl p = S := ⟨_, rfl⟩
  have HS := hide hS
  rw [hS] at hsl ⊢
  clear hS
  go_wp2_with fail
  refine Calls.mono (refWide_any S 4 w5 (by omega) (by decide)) ?_
  rintro e w6 ⟨rfl, k6, g6⟩
  have HK6 := hide ((unhide HK4).trans k6 (by simp))
  have HR6 := hide (rd_fresh g6 (wide_byte _ _) (by rw [wide_len]; omega))
  rw [wide_len] at HR6
  have HR36 := hide ((unhide HR3').old k6 (by simp))
  clear k6 g6
  go_wp2_with fail
  refine Calls.mono (join_any _ _ [245] _ _ (rd_lit (heap_alloc_new _ _) rfl (by decide) 1 rfl (by decide)) ((unhide HR36).old ((Kept.refl [] w6).alloc _) (by simp)) (by simp [wide_len])) ?_
  rintro e w7 ⟨v7, rfl, r7, k7, _⟩
  have HK7 := hide (((unhide HK6).alloc _).trans k7 (by simp))
  have HR7 := hide r7
  have HR67 := hide ((unhide HR6).old (((Kept.refl [] w6).alloc _).trans k7 (by simp)) (by simp))
  clear r7 k7
  go_wp2_with fail
  refine Calls.mono (join_any _ _ p [95] _ ((unhide H).old ((unhide HK7).alloc _) (by simp)) (rd_lit (heap_alloc_new _ _) rfl (by decide) 1 rfl (by decide)) (by simp; omega)) ?_
  rintro e w8 ⟨v8, rfl, r8, k8, _⟩
  have HK8 := hide (((unhide HK7).alloc _).trans k8 (by simp))
  have HR8 := hide r8
  have HR68 := hide ((unhide HR67).old (((Kept.refl [] w7).alloc _).trans k8 (by simp)) (by simp))
  have HR78 := hide ((unhide HR7).old (((Kept.refl [] w7).alloc _).trans k8 (by simp)) (by simp))
  clear r8 k8
  go_wp2_with fail
  refine Calls.mono (join_any _ _ _ _ w8 (unhide HR68) (unhide HR8) (by simp [wide_len]; omega)) ?_
  rintro e w9 ⟨v9, rfl, r9, k9, _⟩
  have HK9 := hide ((unhide HK8).trans k9 (by simp))
  have HR9 := hide r9
  have HR79 := hide ((unhide HR78).old k9 (by simp))
  clear r9 k9
  go_wp2_with fail
  refine Calls.mono (join_any _ _ _ _ w9 (unhide HR79) (unhide HR9) (by simp [wide_len]; omega)) ?_
  rintro e w10 ⟨v10, rfl, r10, k10, b10⟩
  have HB10 := hide (fun x hx => Nat.le_trans (unhide HK9).size (b10 x hx) : ∀ x ∈ blk v10, w.heap.size ≤ x)
  have HK10 := hide ((unhide HK9).trans k10 (by simp))
  have HR10 := hide r10
  clear r10 k10 b10
  go_wp2
  go_ret
  refine ⟨_, rfl, ?_, unhide HK10, unhide HB10⟩
  have e9 : [245] ++ (wide p.length 4 ++ wide pl 8) ++ (wide S 4 ++ (p ++ [95])) = frB pl p := by
    rw [← unhide HS]; simp [frB, List.append_assoc]
  rw [e9] at HR10
  exact unhide HR10

end Go.Proofs.YtckkalmhekfnhabGreatDoor
/-
  Laws for drawn regions, by genreg.py. No program.
-/
namespace Go.Proofs.YtckkalmhekfnhabGreatDoor
open Go Go.RowKit Go.BigFrame
set_option linter.unusedVariables false
set_option linter.unusedSimpArgs false
section
variable {P : Program} {Q : Exit → Act → World → Prop}
theorem wp_hb2 {id : Nat} {o0 o1 o2 o3 o4 o5 o6 o7 o8 o9 : Oper} {a : Act} {w : World} (hm : P.follows .mixedOrders = true) (hs : Region.noSelect #[o0, o1, o2, o3, o4, o5, o6, o7, o8, o9] = true)
    (f0 : Region.free .any #[o0, o1, o2, o3, o4, o5, o6, o7, o8, o9] #[false, false, false, false, false, false, false, false, false, false] 0 = true) (r0 : (Region.ready .any #[o0, o1, o2, o3, o4, o5, o6, o7, o8, o9] #[false, false, false, false, false, false, false, false, false, false]).contains 0 = true)
    (f1 : Region.free .any #[o0, o1, o2, o3, o4, o5, o6, o7, o8, o9] #[true, false, false, false, false, false, false, false, false, false] 1 = true) (r1 : (Region.ready .any #[o0, o1, o2, o3, o4, o5, o6, o7, o8, o9] #[true, false, false, false, false, false, false, false, false, false]).contains 1 = true)
    (f2 : Region.free .any #[o0, o1, o2, o3, o4, o5, o6, o7, o8, o9] #[true, true, false, false, false, false, false, false, false, false] 2 = true) (r2 : (Region.ready .any #[o0, o1, o2, o3, o4, o5, o6, o7, o8, o9] #[true, true, false, false, false, false, false, false, false, false]).contains 2 = true)
    (f4 : Region.free .any #[o0, o1, o2, o3, o4, o5, o6, o7, o8, o9] #[true, true, true, false, false, false, false, false, false, false] 4 = true) (r4 : (Region.ready .any #[o0, o1, o2, o3, o4, o5, o6, o7, o8, o9] #[true, true, true, false, false, false, false, false, false, false]).contains 4 = true)
    (f5 : Region.free .any #[o0, o1, o2, o3, o4, o5, o6, o7, o8, o9] #[true, true, true, false, true, false, false, false, false, false] 5 = true) (r5 : (Region.ready .any #[o0, o1, o2, o3, o4, o5, o6, o7, o8, o9] #[true, true, true, false, true, false, false, false, false, false]).contains 5 = true)
    (q_ : Region.ready .any #[o0, o1, o2, o3, o4, o5, o6, o7, o8, o9] #[true, true, true, false, true, true, false, false, false, false] = [3])
    (q3_ : Region.ready .any #[o0, o1, o2, o3, o4, o5, o6, o7, o8, o9] #[true, true, true, true, true, true, false, false, false, false] = [6])
    (q3_6_ : Region.ready .any #[o0, o1, o2, o3, o4, o5, o6, o7, o8, o9] #[true, true, true, true, true, true, true, false, false, false] = [7])
    (q3_6_7_ : Region.ready .any #[o0, o1, o2, o3, o4, o5, o6, o7, o8, o9] #[true, true, true, true, true, true, true, true, false, false] = [8])
    (f3_6_7_8_9 : Region.free .any #[o0, o1, o2, o3, o4, o5, o6, o7, o8, o9] #[true, true, true, true, true, true, true, true, true, false] 9 = true) (r3_6_7_8_9 : (Region.ready .any #[o0, o1, o2, o3, o4, o5, o6, o7, o8, o9] #[true, true, true, true, true, true, true, true, true, false]).contains 9 = true)
    (q3_6_7_8_ : Region.ready .any #[o0, o1, o2, o3, o4, o5, o6, o7, o8, o9] #[true, true, true, true, true, true, true, true, true, true] = [])
    (g3 : o3.guard = none)    (g6 : o6.guard = none)    (g7 : o7.guard = none)    (g8 : o8.guard = none)
    (v0 v1 v2 v4 v5 : Value) (A0 A1 A2 A3 A4 : Act)
    (S : World → Prop)
    (I_ : World → Prop)
    (I3_ : Value → World → Prop)
    (I3_6_ : Value → Value → World → Prop)
    (I3_6_7_ : Value → Value → Value → World → Prop)
    (I3_6_7_8_ : Value → Value → Value → Value → World → Prop)
    (v9 : Value → Value → Value → Value → Value)
    (p0 : a.put o0.dst v0 = A0) (hy0 : YieldsIf P #[o0, o1, o2, o3, o4, o5, o6, o7, o8, o9] S o0 v0 a)
    (p1 : A0.put o1.dst v1 = A1) (hy1 : YieldsIf P #[o0, o1, o2, o3, o4, o5, o6, o7, o8, o9] S o1 v1 A0)
    (p2 : A1.put o2.dst v2 = A2) (hy2 : YieldsIf P #[o0, o1, o2, o3, o4, o5, o6, o7, o8, o9] S o2 v2 A1)
    (p4 : A2.put o4.dst v4 = A3) (hy4 : YieldsIf P #[o0, o1, o2, o3, o4, o5, o6, o7, o8, o9] S o4 v4 A2)
    (p5 : A3.put o5.dst v5 = A4) (hy5 : YieldsIf P #[o0, o1, o2, o3, o4, o5, o6, o7, o8, o9] S o5 v5 A3)
    (i0 : I_ w.drew)
    (hIS : (∀ w', I_  w' → S w') ∧ (∀ (u3 : Value) w', I3_ u3 w' → S w') ∧ (∀ (u3 u6 : Value) w', I3_6_ u3 u6 w' → S w') ∧ (∀ (u3 u6 u7 : Value) w', I3_6_7_ u3 u6 u7 w' → S w') ∧ (∀ (u3 u6 u7 u8 : Value) w', I3_6_7_8_ u3 u6 u7 u8 w' → S w'))
    (s_3 : ∀ w', I_  w' → ∀ K : Act → World → Prop, (∀ (u3 : Value) w2, I3_ u3 w2 → K (A4.put o3.dst u3) w2) → o3.wp P A4 w' K (NoPanic Q))
    (s3_6 : ∀ (u3 : Value) w', I3_ u3 w' → ∀ K : Act → World → Prop, (∀ (u6 : Value) w2, I3_6_ u3 u6 w2 → K ((A4.put o3.dst u3).put o6.dst u6) w2) → o6.wp P (A4.put o3.dst u3) w' K (NoPanic Q))
    (s3_6_7 : ∀ (u3 u6 : Value) w', I3_6_ u3 u6 w' → ∀ K : Act → World → Prop, (∀ (u7 : Value) w2, I3_6_7_ u3 u6 u7 w2 → K (((A4.put o3.dst u3).put o6.dst u6).put o7.dst u7) w2) → o7.wp P ((A4.put o3.dst u3).put o6.dst u6) w' K (NoPanic Q))
    (s3_6_7_8 : ∀ (u3 u6 u7 : Value) w', I3_6_7_ u3 u6 u7 w' → ∀ K : Act → World → Prop, (∀ (u8 : Value) w2, I3_6_7_8_ u3 u6 u7 u8 w2 → K ((((A4.put o3.dst u3).put o6.dst u6).put o7.dst u7).put o8.dst u8) w2) → o8.wp P (((A4.put o3.dst u3).put o6.dst u6).put o7.dst u7) w' K (NoPanic Q))
    (y3_6_7_8_9 : ∀ (u3 u6 u7 u8 : Value) w', I3_6_7_8_ u3 u6 u7 u8 w' → YieldsIf P #[o0, o1, o2, o3, o4, o5, o6, o7, o8, o9] S o9 (v9 u3 u6 u7 u8) ((((A4.put o3.dst u3).put o6.dst u6).put o7.dst u7).put o8.dst u8))
    (h : ∀ (u3 u6 u7 u8 : Value) w', I3_6_7_8_ u3 u6 u7 u8 w' → Q .normal (((((A4.put o3.dst u3).put o6.dst u6).put o7.dst u7).put o8.dst u8).put o9.dst (v9 u3 u6 u7 u8)) w') :
    (Code.region id #[o0, o1, o2, o3, o4, o5, o6, o7, o8, o9] true).wp P Q a w := by
  subst p0 p1 p2 p4 p5
  obtain ⟨z_, z3_, z3_6_, z3_6_7_, z3_6_7_8_⟩ := hIS
  refine wp_region_noPanic ?_
  refine wp_region_held_drew (S := S) hm (z_ _ i0) (fun hH => ?_)
  show wpAnyH P .any #[o0, o1, o2, o3, o4, o5, o6, o7, o8, o9] (NoPanic Q) S 10 #[false, false, false, false, false, false, false, false, false, false] a w.drew
  refine wpAnyH_take (i := 0) (oi := o0) rfl hs f0 r0 (fun _ _ _ h => h) hy0 hH ?_
  refine wpAnyH_take (i := 1) (oi := o1) rfl hs f1 r1 (fun _ _ _ h => h) hy1 hH ?_
  refine wpAnyH_take (i := 2) (oi := o2) rfl hs f2 r2 (fun _ _ _ h => h) hy2 hH ?_
  refine wpAnyH_take (i := 4) (oi := o4) rfl hs f4 r4 (fun _ _ _ h => h) hy4 hH ?_
  refine wpAnyH_take (i := 5) (oi := o5) rfl hs f5 r5 (fun _ _ _ h => h) hy5 hH ?_
  generalize (((((a.put o0.dst v0).put o1.dst v1).put o2.dst v2).put o4.dst v4).put o5.dst v5) = B at *
  have wa3 : ∀ y, Region.wanted o3 y = true := fun y => by unfold Region.wanted; rw [g3]
  have wa6 : ∀ y, Region.wanted o6 y = true := fun y => by unfold Region.wanted; rw [g6]
  have wa7 : ∀ y, Region.wanted o7 y = true := fun y => by unfold Region.wanted; rw [g7]
  have wa8 : ∀ y, Region.wanted o8 y = true := fun y => by unfold Region.wanted; rw [g8]
  have t3_6_7_8_ : ∀ (u3 u6 u7 u8 : Value) w', I3_6_7_8_ u3 u6 u7 u8 w' → wpAnyH P .any #[o0, o1, o2, o3, o4, o5, o6, o7, o8, o9] (NoPanic Q) S 0 #[true, true, true, true, true, true, true, true, true, true] (((((B.put o3.dst u3).put o6.dst u6).put o7.dst u7).put o8.dst u8).put o9.dst (v9 u3 u6 u7 u8)) w' := by
    intro u3 u6 u7 u8 w0 i0
    exact ⟨q3_6_7_8_, NoPanic.normal (h u3 u6 u7 u8 w0 i0)⟩
  have t3_6_7_ : ∀ (u3 u6 u7 : Value) w', I3_6_7_ u3 u6 u7 w' → wpAnyH P .any #[o0, o1, o2, o3, o4, o5, o6, o7, o8, o9] (NoPanic Q) S 2 #[true, true, true, true, true, true, true, true, false, false] (((B.put o3.dst u3).put o6.dst u6).put o7.dst u7) w' := by
    intro u3 u6 u7 w0 i0
    refine wpAnyH_ready (rs := [8]) q3_6_7_ (by simp) (AllReadyH.cons (o := o8) rfl (fun K hK => ?_) AllReadyH.nil)
    · rw [if_pos (wa8 _)]
      refine s3_6_7_8 u3 u6 u7 w0 i0 K (fun u8 w1 i1 => hK.out _ _ (z3_6_7_8_ u3 u6 u7 u8 w1 i1) (fun _ => ?_))
      clear hK
      refine wpAnyH_take (i := 9) (oi := o9) rfl hs f3_6_7_8_9 r3_6_7_8_9 (fun _ _ _ h => h) (y3_6_7_8_9 u3 u6 u7 u8 w1 i1) (z3_6_7_8_ u3 u6 u7 u8 w1 i1) ?_
      exact t3_6_7_8_ u3 u6 u7 u8 w1 i1
  have t3_6_ : ∀ (u3 u6 : Value) w', I3_6_ u3 u6 w' → wpAnyH P .any #[o0, o1, o2, o3, o4, o5, o6, o7, o8, o9] (NoPanic Q) S 3 #[true, true, true, true, true, true, true, false, false, false] ((B.put o3.dst u3).put o6.dst u6) w' := by
    intro u3 u6 w0 i0
    refine wpAnyH_ready (rs := [7]) q3_6_ (by simp) (AllReadyH.cons (o := o7) rfl (fun K hK => ?_) AllReadyH.nil)
    · rw [if_pos (wa7 _)]
      refine s3_6_7 u3 u6 w0 i0 K (fun u7 w1 i1 => hK.out _ _ (z3_6_7_ u3 u6 u7 w1 i1) (fun _ => ?_))
      clear hK
      exact t3_6_7_ u3 u6 u7 w1 i1
  have t3_ : ∀ (u3 : Value) w', I3_ u3 w' → wpAnyH P .any #[o0, o1, o2, o3, o4, o5, o6, o7, o8, o9] (NoPanic Q) S 4 #[true, true, true, true, true, true, false, false, false, false] (B.put o3.dst u3) w' := by
    intro u3 w0 i0
    refine wpAnyH_ready (rs := [6]) q3_ (by simp) (AllReadyH.cons (o := o6) rfl (fun K hK => ?_) AllReadyH.nil)
    · rw [if_pos (wa6 _)]
      refine s3_6 u3 w0 i0 K (fun u6 w1 i1 => hK.out _ _ (z3_6_ u3 u6 w1 i1) (fun _ => ?_))
      clear hK
      exact t3_6_ u3 u6 w1 i1
  have t_ : ∀ w', I_  w' → wpAnyH P .any #[o0, o1, o2, o3, o4, o5, o6, o7, o8, o9] (NoPanic Q) S 5 #[true, true, true, false, true, true, false, false, false, false] B w' := by
    intro w0 i0
    refine wpAnyH_ready (rs := [3]) q_ (by simp) (AllReadyH.cons (o := o3) rfl (fun K hK => ?_) AllReadyH.nil)
    · rw [if_pos (wa3 _)]
      refine s_3  w0 i0 K (fun u3 w1 i1 => hK.out _ _ (z3_ u3 w1 i1) (fun _ => ?_))
      clear hK
      exact t3_ u3 w1 i1
  exact t_ w.drew i0

theorem wp_hb3 {id : Nat} {o0 o1 o2 o3 o4 o5 o6 o7 o8 o9 : Oper} {a : Act} {w : World} (hm : P.follows .mixedOrders = true) (hs : Region.noSelect #[o0, o1, o2, o3, o4, o5, o6, o7, o8, o9] = true)
    (f0 : Region.free .any #[o0, o1, o2, o3, o4, o5, o6, o7, o8, o9] #[false, false, false, false, false, false, false, false, false, false] 0 = true) (r0 : (Region.ready .any #[o0, o1, o2, o3, o4, o5, o6, o7, o8, o9] #[false, false, false, false, false, false, false, false, false, false]).contains 0 = true)
    (f1 : Region.free .any #[o0, o1, o2, o3, o4, o5, o6, o7, o8, o9] #[true, false, false, false, false, false, false, false, false, false] 1 = true) (r1 : (Region.ready .any #[o0, o1, o2, o3, o4, o5, o6, o7, o8, o9] #[true, false, false, false, false, false, false, false, false, false]).contains 1 = true)
    (f2 : Region.free .any #[o0, o1, o2, o3, o4, o5, o6, o7, o8, o9] #[true, true, false, false, false, false, false, false, false, false] 2 = true) (r2 : (Region.ready .any #[o0, o1, o2, o3, o4, o5, o6, o7, o8, o9] #[true, true, false, false, false, false, false, false, false, false]).contains 2 = true)
    (f3 : Region.free .any #[o0, o1, o2, o3, o4, o5, o6, o7, o8, o9] #[true, true, true, false, false, false, false, false, false, false] 3 = true) (r3 : (Region.ready .any #[o0, o1, o2, o3, o4, o5, o6, o7, o8, o9] #[true, true, true, false, false, false, false, false, false, false]).contains 3 = true)
    (f4 : Region.free .any #[o0, o1, o2, o3, o4, o5, o6, o7, o8, o9] #[true, true, true, true, false, false, false, false, false, false] 4 = true) (r4 : (Region.ready .any #[o0, o1, o2, o3, o4, o5, o6, o7, o8, o9] #[true, true, true, true, false, false, false, false, false, false]).contains 4 = true)
    (f5 : Region.free .any #[o0, o1, o2, o3, o4, o5, o6, o7, o8, o9] #[true, true, true, true, true, false, false, false, false, false] 5 = true) (r5 : (Region.ready .any #[o0, o1, o2, o3, o4, o5, o6, o7, o8, o9] #[true, true, true, true, true, false, false, false, false, false]).contains 5 = true)
    (q_ : Region.ready .any #[o0, o1, o2, o3, o4, o5, o6, o7, o8, o9] #[true, true, true, true, true, true, false, false, false, false] = [6])
    (q6_ : Region.ready .any #[o0, o1, o2, o3, o4, o5, o6, o7, o8, o9] #[true, true, true, true, true, true, true, false, false, false] = [7])
    (q6_7_ : Region.ready .any #[o0, o1, o2, o3, o4, o5, o6, o7, o8, o9] #[true, true, true, true, true, true, true, true, false, false] = [8])
    (f6_7_8_9 : Region.free .any #[o0, o1, o2, o3, o4, o5, o6, o7, o8, o9] #[true, true, true, true, true, true, true, true, true, false] 9 = true) (r6_7_8_9 : (Region.ready .any #[o0, o1, o2, o3, o4, o5, o6, o7, o8, o9] #[true, true, true, true, true, true, true, true, true, false]).contains 9 = true)
    (q6_7_8_ : Region.ready .any #[o0, o1, o2, o3, o4, o5, o6, o7, o8, o9] #[true, true, true, true, true, true, true, true, true, true] = [])
    (g6 : o6.guard = none)    (g7 : o7.guard = none)    (g8 : o8.guard = none)
    (v0 v1 v2 v3 v4 v5 : Value) (A0 A1 A2 A3 A4 A5 : Act)
    (S : World → Prop)
    (I_ : World → Prop)
    (I6_ : Value → World → Prop)
    (I6_7_ : Value → Value → World → Prop)
    (I6_7_8_ : Value → Value → Value → World → Prop)
    (v9 : Value → Value → Value → Value)
    (p0 : a.put o0.dst v0 = A0) (hy0 : YieldsIf P #[o0, o1, o2, o3, o4, o5, o6, o7, o8, o9] S o0 v0 a)
    (p1 : A0.put o1.dst v1 = A1) (hy1 : YieldsIf P #[o0, o1, o2, o3, o4, o5, o6, o7, o8, o9] S o1 v1 A0)
    (p2 : A1.put o2.dst v2 = A2) (hy2 : YieldsIf P #[o0, o1, o2, o3, o4, o5, o6, o7, o8, o9] S o2 v2 A1)
    (p3 : A2.put o3.dst v3 = A3) (hy3 : YieldsIf P #[o0, o1, o2, o3, o4, o5, o6, o7, o8, o9] S o3 v3 A2)
    (p4 : A3.put o4.dst v4 = A4) (hy4 : YieldsIf P #[o0, o1, o2, o3, o4, o5, o6, o7, o8, o9] S o4 v4 A3)
    (p5 : A4.put o5.dst v5 = A5) (hy5 : YieldsIf P #[o0, o1, o2, o3, o4, o5, o6, o7, o8, o9] S o5 v5 A4)
    (i0 : I_ w.drew)
    (hIS : (∀ w', I_  w' → S w') ∧ (∀ (u6 : Value) w', I6_ u6 w' → S w') ∧ (∀ (u6 u7 : Value) w', I6_7_ u6 u7 w' → S w') ∧ (∀ (u6 u7 u8 : Value) w', I6_7_8_ u6 u7 u8 w' → S w'))
    (s_6 : ∀ w', I_  w' → ∀ K : Act → World → Prop, (∀ (u6 : Value) w2, I6_ u6 w2 → K (A5.put o6.dst u6) w2) → o6.wp P A5 w' K (NoPanic Q))
    (s6_7 : ∀ (u6 : Value) w', I6_ u6 w' → ∀ K : Act → World → Prop, (∀ (u7 : Value) w2, I6_7_ u6 u7 w2 → K ((A5.put o6.dst u6).put o7.dst u7) w2) → o7.wp P (A5.put o6.dst u6) w' K (NoPanic Q))
    (s6_7_8 : ∀ (u6 u7 : Value) w', I6_7_ u6 u7 w' → ∀ K : Act → World → Prop, (∀ (u8 : Value) w2, I6_7_8_ u6 u7 u8 w2 → K (((A5.put o6.dst u6).put o7.dst u7).put o8.dst u8) w2) → o8.wp P ((A5.put o6.dst u6).put o7.dst u7) w' K (NoPanic Q))
    (y6_7_8_9 : ∀ (u6 u7 u8 : Value) w', I6_7_8_ u6 u7 u8 w' → YieldsIf P #[o0, o1, o2, o3, o4, o5, o6, o7, o8, o9] S o9 (v9 u6 u7 u8) (((A5.put o6.dst u6).put o7.dst u7).put o8.dst u8))
    (h : ∀ (u6 u7 u8 : Value) w', I6_7_8_ u6 u7 u8 w' → Q .normal ((((A5.put o6.dst u6).put o7.dst u7).put o8.dst u8).put o9.dst (v9 u6 u7 u8)) w') :
    (Code.region id #[o0, o1, o2, o3, o4, o5, o6, o7, o8, o9] true).wp P Q a w := by
  subst p0 p1 p2 p3 p4 p5
  obtain ⟨z_, z6_, z6_7_, z6_7_8_⟩ := hIS
  refine wp_region_noPanic ?_
  refine wp_region_held_drew (S := S) hm (z_ _ i0) (fun hH => ?_)
  show wpAnyH P .any #[o0, o1, o2, o3, o4, o5, o6, o7, o8, o9] (NoPanic Q) S 10 #[false, false, false, false, false, false, false, false, false, false] a w.drew
  refine wpAnyH_take (i := 0) (oi := o0) rfl hs f0 r0 (fun _ _ _ h => h) hy0 hH ?_
  refine wpAnyH_take (i := 1) (oi := o1) rfl hs f1 r1 (fun _ _ _ h => h) hy1 hH ?_
  refine wpAnyH_take (i := 2) (oi := o2) rfl hs f2 r2 (fun _ _ _ h => h) hy2 hH ?_
  refine wpAnyH_take (i := 3) (oi := o3) rfl hs f3 r3 (fun _ _ _ h => h) hy3 hH ?_
  refine wpAnyH_take (i := 4) (oi := o4) rfl hs f4 r4 (fun _ _ _ h => h) hy4 hH ?_
  refine wpAnyH_take (i := 5) (oi := o5) rfl hs f5 r5 (fun _ _ _ h => h) hy5 hH ?_
  generalize ((((((a.put o0.dst v0).put o1.dst v1).put o2.dst v2).put o3.dst v3).put o4.dst v4).put o5.dst v5) = B at *
  have wa6 : ∀ y, Region.wanted o6 y = true := fun y => by unfold Region.wanted; rw [g6]
  have wa7 : ∀ y, Region.wanted o7 y = true := fun y => by unfold Region.wanted; rw [g7]
  have wa8 : ∀ y, Region.wanted o8 y = true := fun y => by unfold Region.wanted; rw [g8]
  have t6_7_8_ : ∀ (u6 u7 u8 : Value) w', I6_7_8_ u6 u7 u8 w' → wpAnyH P .any #[o0, o1, o2, o3, o4, o5, o6, o7, o8, o9] (NoPanic Q) S 0 #[true, true, true, true, true, true, true, true, true, true] ((((B.put o6.dst u6).put o7.dst u7).put o8.dst u8).put o9.dst (v9 u6 u7 u8)) w' := by
    intro u6 u7 u8 w0 i0
    exact ⟨q6_7_8_, NoPanic.normal (h u6 u7 u8 w0 i0)⟩
  have t6_7_ : ∀ (u6 u7 : Value) w', I6_7_ u6 u7 w' → wpAnyH P .any #[o0, o1, o2, o3, o4, o5, o6, o7, o8, o9] (NoPanic Q) S 2 #[true, true, true, true, true, true, true, true, false, false] ((B.put o6.dst u6).put o7.dst u7) w' := by
    intro u6 u7 w0 i0
    refine wpAnyH_ready (rs := [8]) q6_7_ (by simp) (AllReadyH.cons (o := o8) rfl (fun K hK => ?_) AllReadyH.nil)
    · rw [if_pos (wa8 _)]
      refine s6_7_8 u6 u7 w0 i0 K (fun u8 w1 i1 => hK.out _ _ (z6_7_8_ u6 u7 u8 w1 i1) (fun _ => ?_))
      clear hK
      refine wpAnyH_take (i := 9) (oi := o9) rfl hs f6_7_8_9 r6_7_8_9 (fun _ _ _ h => h) (y6_7_8_9 u6 u7 u8 w1 i1) (z6_7_8_ u6 u7 u8 w1 i1) ?_
      exact t6_7_8_ u6 u7 u8 w1 i1
  have t6_ : ∀ (u6 : Value) w', I6_ u6 w' → wpAnyH P .any #[o0, o1, o2, o3, o4, o5, o6, o7, o8, o9] (NoPanic Q) S 3 #[true, true, true, true, true, true, true, false, false, false] (B.put o6.dst u6) w' := by
    intro u6 w0 i0
    refine wpAnyH_ready (rs := [7]) q6_ (by simp) (AllReadyH.cons (o := o7) rfl (fun K hK => ?_) AllReadyH.nil)
    · rw [if_pos (wa7 _)]
      refine s6_7 u6 w0 i0 K (fun u7 w1 i1 => hK.out _ _ (z6_7_ u6 u7 w1 i1) (fun _ => ?_))
      clear hK
      exact t6_7_ u6 u7 w1 i1
  have t_ : ∀ w', I_  w' → wpAnyH P .any #[o0, o1, o2, o3, o4, o5, o6, o7, o8, o9] (NoPanic Q) S 4 #[true, true, true, true, true, true, false, false, false, false] B w' := by
    intro w0 i0
    refine wpAnyH_ready (rs := [6]) q_ (by simp) (AllReadyH.cons (o := o6) rfl (fun K hK => ?_) AllReadyH.nil)
    · rw [if_pos (wa6 _)]
      refine s_6  w0 i0 K (fun u6 w1 i1 => hK.out _ _ (z6_ u6 w1 i1) (fun _ => ?_))
      clear hK
      exact t6_ u6 w1 i1
  exact t_ w.drew i0

end
end Go.Proofs.YtckkalmhekfnhabGreatDoor
namespace Go.Proofs.YtckkalmhekfnhabGreatDoor
open Go.RowKit Go.BigFrame
set_option linter.unusedVariables false
set_option linter.unusedSimpArgs false

set_option maxRecDepth 100000 in
theorem wide5_any (z : Int) (w : World) : Calls Tryz.prog 76 #[.int .i64 z] w fun e w' => e = .returned (.bool (wideB z)) ∧ w' = w := by
  by_cases h1 : 1 ≤ z
  · by_cases h2 : z ≤ 32
    · rw [show wideB z = true by simp [wideB, h1, h2]]
      go_enter Tryz.func76, Tryz.ntmps76
      go_wp2
      go_ret
      simp
    · rw [show wideB z = false by simp [wideB, h2]]
      go_enter Tryz.func76, Tryz.ntmps76
      go_wp2
      go_ret
      simp
  · rw [show wideB z = false by simp [wideB, h1]]
    go_enter Tryz.func76, Tryz.ntmps76
    go_wp2
    go_ret
    simp
set_option maxRecDepth 100000 in
theorem magic_any (w : World) : Calls Tryz.prog 121 #[] w fun e w' => e = .returned (.slice (some ⟨w.heap.size, 0, none⟩) 5 5) ∧ Rd w' (.slice (some ⟨w.heap.size, 0, none⟩) 5 5) [78, 84, 82, 89, 49] ∧ Kept [] w w' := by
  have kc := Lib.run_convert_bytes_const (P := Tryz.prog) w 29 5 #[.int .u8 78, .int .u8 84, .int .u8 82, .int .u8 89, .int .u8 49] 5 5 Tryz.underlying29 Tryz.underlying5
  go_enter Tryz.func121, Tryz.ntmps121
  go_wp2
  go_ret
  exact ⟨rfl, rd_row [78, 84, 82, 89, 49] (heap_alloc_new w _) rfl (by decide) 5 rfl (by decide), (Kept.refl [] w).alloc _⟩

theorem wp_litb {o : Oper} {a : Act} {w : World} {K : Act → World → Prop} {Q : Exit → Act → World → Prop} (x : Operand) (ho : o.op = .buildSlice 29 1 #[(0, x)]) (y : Nat) (hx : a.eval x = .int .u8 (y : Int))
    (h : K (a.put o.dst (.slice (some ⟨w.heap.size, 0, none⟩) 1 1)) (w.alloc (.cells #[.int .u8 (y : Int)] 5))) : o.wp Tryz.prog a w K Q := by
  unfold Oper.wp execOp
  simp only [ho, List.map_toArray, List.map_cons, List.map_nil, hx]
  go_simp
  exact h

set_option maxRecDepth 100000 in
set_option maxHeartbeats 4000000 in
theorem headBytes_any (a b c : Nat) (z : Int) (w : World) (ha : a < 18446744073709551616) (hb : b < 18446744073709551616) (hc : c < 18446744073709551616) (hz : -9223372036854775808 ≤ z ∧ z ≤ 9223372036854775807) :
    Calls Tryz.prog 77 #[.agg #[.int .u64 a, .int .u64 b, .int .u64 c, .int .i64 z]] w fun e w' => ∃ v', e = .returned v' ∧ Rd w' v' (frB a (headB a b c z)) ∧ Kept [] w w' := by
  have HB0 := hide (heap_alloc_new w (.cells #[.int .u64 (a : Int), .int .u64 (b : Int), .int .u64 (c : Int), .int .i64 z] 47))
  have HK0 := hide ((Kept.refl [] w).alloc (.cells #[.int .u64 (a : Int), .int .u64 (b : Int), .int .u64 (c : Int), .int .i64 z] 47))
  obtain ⟨W1, hW1⟩ : ∃ W, w.alloc (.cells #[.int .u64 (a : Int), .int .u64 (b : Int), .int .u64 (c : Int), .int .i64 z] 47) = W := ⟨_, rfl⟩
  rw [hW1] at HB0 HK0
  go_enter Tryz.func77, Tryz.ntmps77
  go_upto_region 1 with fail
  clear hW1
  obtain ⟨d0, d1, d2, d3⟩ := hcells (unhide HB0)
  have HD0 := hide d0
  go_region_held3 (fun w' => w'.cell? ⟨w.heap.size, 0, none⟩ = some (.int .u64 (a : Int))) (go_keep) (first
    | (go_at_call 121; refine (magic_any W1.drew).mono ?_; rintro e w2 ⟨rfl, r2, k2⟩; have HR2 := hide r2; have K2 := (Kept.refl [] W1).drew.trans k2 (by simp); have HK2 := hide K2; have y0 := K2.cell (unhide HD0) (by simp); clear r2 k2 K2)
    | (go_at_call 119; refine (refWide_any a 8 _ ha (by omega)).mono ?_; rintro e w3 ⟨rfl, k3, h3⟩; have HR3 := hide (rd_lit h3 rfl (wide_byte a 8) 8 (wide_len a 8) (by omega)); have HR23 := hide ((unhide HR2).old k3 (by simp)); have HK3 := hide ((unhide HK2).trans k3 (by simp)); have z0 := k3.cell y0 (by simp); clear k3 h3)
    | (go_at_call 27; refine (join_any _ _ _ (wide a 8) _ (by exact unhide HR23) (by exact unhide HR3) (by simp [wide_len])).mono ?_; rintro e w4 ⟨v4, rfl, r4, k4, _⟩; have HR4 := hide r4; have HK4 := hide ((unhide HK3).trans k4 (by simp)); have j0 := k4.cell z0 (by simp); clear k4 r4))
  clear d0 d1 d2 d3 y0 z0 j0 HD0 HR2 HR23 HR3 HK2 HK3
  have HB4 := hide ((unhide HK4).heap (unhide HB0) (by simp))
  have HKw4 := hide ((unhide HK0).trans (unhide HK4) (by simp))
  obtain ⟨a4, m4, c4, rfl, hm4, _⟩ := id (unhide HR4)
  clear hm4
  clear HK4 HB0 HK0
  go_upto_region 2 with fail
  have HS4 := hide (fun w' (k : Kept [] w4 w') => by
    obtain ⟨d0, d1, d2, d3⟩ := hcells (unhide HB4)
    exact ⟨k.cell d1 (by simp), k.cell d2 (by simp)⟩ : ∀ w', Kept [] w4 w' → w'.cell? ⟨w.heap.size, 1, none⟩ = some (.int .u64 (b : Int)) ∧ w'.cell? ⟨w.heap.size, 2, none⟩ = some (.int .u64 (c : Int)))
  refine wp_hb2 (by kernel_rfl) (by kernel_rfl) (by kernel_rfl) (by kernel_rfl) (by kernel_rfl) (by kernel_rfl) (by kernel_rfl) (by kernel_rfl) (by kernel_rfl) (by kernel_rfl) (by kernel_rfl) (by kernel_rfl) (by kernel_rfl) (by kernel_rfl) (by kernel_rfl) (by kernel_rfl) (by kernel_rfl) (by kernel_rfl) (by kernel_rfl) rfl rfl rfl rfl
    (.slice a4 m4 c4) (.pointer (some ⟨w.heap.size, 1, none⟩)) (.int .u64 (b : Int)) (.pointer (some ⟨w.heap.size, 2, none⟩)) (.int .u64 (c : Int)) _ _ _ _ _
    (fun w' => w'.cell? ⟨w.heap.size, 1, none⟩ = some (.int .u64 (b : Int)) ∧ w'.cell? ⟨w.heap.size, 2, none⟩ = some (.int .u64 (c : Int)))
    (fun w' => Kept [] w4 w')
    (fun u3 w' => Kept [] w4 w' ∧ Rd w' u3 (wide b 8))
    (fun u3 u6 w' => Kept [] w4 w' ∧ Rd w' u3 (wide b 8) ∧ Rd w' u6 (wide c 8))
    (fun u3 u6 u7 w' => Kept [] w4 w' ∧ Rd w' u7 (wide b 8 ++ wide c 8))
    (fun u3 u6 u7 u8 w' => Kept [] w4 w' ∧ Rd w' u8 ([78, 84, 82, 89, 49] ++ wide a 8 ++ (wide b 8 ++ wide c 8)))
    (fun u3 u6 u7 u8 => u8)
    (by simp only [Act.put, List.setIfInBounds_toArray, List.set_cons_zero, List.set_cons_succ]; rfl) (by exact Or.inl ⟨by rfl, fun W' hW' => by go_simp⟩)
    (by simp only [Act.put, List.setIfInBounds_toArray, List.set_cons_zero, List.set_cons_succ]; rfl) (by exact Or.inl ⟨by rfl, fun W' hW' => by go_simp⟩)
    (by simp only [Act.put, List.setIfInBounds_toArray, List.set_cons_zero, List.set_cons_succ]; rfl) (by exact Or.inl ⟨by rfl, fun W' hW' => run_load1 24 _ rfl ⟨w.heap.size, 1, none⟩ rfl W' _ .u64 Tryz.underlying24 hW'.1⟩)
    (by simp only [Act.put, List.setIfInBounds_toArray, List.set_cons_zero, List.set_cons_succ]; rfl) (by exact Or.inl ⟨by rfl, fun W' hW' => by go_simp⟩)
    (by simp only [Act.put, List.setIfInBounds_toArray, List.set_cons_zero, List.set_cons_succ]; rfl) (by exact Or.inl ⟨by rfl, fun W' hW' => run_load1 24 _ rfl ⟨w.heap.size, 2, none⟩ rfl W' _ .u64 Tryz.underlying24 hW'.2⟩)
    ((Kept.refl [] w4).drew)
    ⟨fun w' h => unhide HS4 w' h, fun u3 w' h => unhide HS4 w' h.1, fun u3 u6 w' h => unhide HS4 w' h.1, fun u3 u6 u7 w' h => unhide HS4 w' h.1, fun u3 u6 u7 u8 w' h => unhide HS4 w' h.1⟩
    (by
      rintro w' k K hK
      refine wp_callN rfl Tryz.call119 [.int .u64 (b : Int), .int .i64 8] rfl (refWide_any b 8 w' hb (by omega)) ?_
      rintro e w2 ⟨rfl, k2, g2⟩
      exact ⟨_, rfl, hK _ _ ⟨k.trans k2 (by simp), rd_lit g2 rfl (wide_byte b 8) 8 (wide_len b 8) (by omega)⟩⟩)
    (by
      rintro u3 w' ⟨k, r3⟩ K hK
      refine wp_callN rfl Tryz.call119 [.int .u64 (c : Int), .int .i64 8] rfl (refWide_any c 8 w' hc (by omega)) ?_
      rintro e w2 ⟨rfl, k2, g2⟩
      exact ⟨_, rfl, hK _ _ ⟨k.trans k2 (by simp), r3.old k2 (by simp), rd_lit g2 rfl (wide_byte c 8) 8 (wide_len c 8) (by omega)⟩⟩)
    (by
      rintro u3 u6 w' ⟨k, r3, r6⟩ K hK
      refine wp_callN rfl Tryz.call27 [u3, u6] rfl (join_any _ _ (wide b 8) (wide c 8) w' r3 r6 (by simp [wide_len])) ?_
      rintro e w2 ⟨v7, rfl, r7, k2, _⟩
      exact ⟨_, rfl, hK _ _ ⟨k.trans k2 (by simp), r7⟩⟩)
    (by
      rintro u3 u6 u7 w' ⟨k, r7⟩ K hK
      refine wp_callN rfl Tryz.call27 [.slice a4 m4 c4, u7] rfl (join_any _ _ ([78, 84, 82, 89, 49] ++ wide a 8) (wide b 8 ++ wide c 8) w' ((unhide HR4).old k (by simp)) r7 (by simp [wide_len])) ?_
      rintro e w2 ⟨v8, rfl, r8, k2, _⟩
      exact ⟨_, rfl, hK _ _ ⟨k.trans k2 (by simp), r8⟩⟩)
    (by rintro u3 u6 u7 u8 w' ⟨k, r8⟩; exact Or.inl ⟨by rfl, fun W' hW' => by go_simp⟩)
    ?_
  rintro u3 u6 u7 v8 w8 ⟨k8, r8⟩
  simp only [Act.put, List.setIfInBounds_toArray, List.set_cons_zero, List.set_cons_succ]
  have HK8 := hide k8
  have HR8 := hide r8
  clear k8 r8
  have HB8 := hide ((unhide HK8).heap (unhide HB4) (by simp))
  have HKw8 := hide ((unhide HKw4).trans (unhide HK8) (by simp))
  obtain ⟨a8, m8, c8, rfl, hm8, _⟩ := id (unhide HR8)
  clear hm8
  clear HK8 HB4 HKw4
  obtain ⟨y, hy⟩ : ∃ y, (z % 256).toNat = y := ⟨_, rfl⟩
  have hyl : y < 256 := by omega
  have hval : IntKind.u8.wrap z = (y : Int) := by rw [IntKind.wrap_u8']; omega
  have HY := hide (And.intro hy hyl)
  clear hy hyl
  go_upto_region 3 with fail
  have HS8 := hide (fun w' (k : Kept [] w8 w') => by
    obtain ⟨d0, d1, d2, d3⟩ := hcells (unhide HB8)
    exact ⟨k.cell d0 (by simp), k.cell d3 (by simp)⟩ : ∀ w', Kept [] w8 w' → w'.cell? ⟨w.heap.size, 0, none⟩ = some (.int .u64 (a : Int)) ∧ w'.cell? ⟨w.heap.size, 3, none⟩ = some (.int .i64 z))
  obtain ⟨P, hP⟩ : ∃ P, [78, 84, 82, 89, 49] ++ wide a 8 ++ (wide b 8 ++ wide c 8) = P := ⟨_, rfl⟩
  have HPL := hide (by rw [← hP]; simp [wide_len] : P.length = 29)
  have HPE := hide (by unfold headB; rw [← hP, (unhide HY).1]; simp : headB a b c z = P ++ [y])
  rw [hP] at HR8
  clear hP
  refine wp_hb3 (by kernel_rfl) (by kernel_rfl) (by kernel_rfl) (by kernel_rfl) (by kernel_rfl) (by kernel_rfl) (by kernel_rfl) (by kernel_rfl) (by kernel_rfl) (by kernel_rfl) (by kernel_rfl) (by kernel_rfl) (by kernel_rfl) (by kernel_rfl) (by kernel_rfl) (by kernel_rfl) (by kernel_rfl) (by kernel_rfl) (by kernel_rfl) (by kernel_rfl) rfl rfl rfl
    (.pointer (some ⟨w.heap.size, 0, none⟩)) (.int .u64 (a : Int)) (.slice a8 m8 c8) (.pointer (some ⟨w.heap.size, 3, none⟩)) (.int .i64 z) (.int .u8 (y : Int)) _ _ _ _ _ _
    (fun w' => w'.cell? ⟨w.heap.size, 0, none⟩ = some (.int .u64 (a : Int)) ∧ w'.cell? ⟨w.heap.size, 3, none⟩ = some (.int .i64 z))
    (fun w' => Kept [] w8 w')
    (fun u6 w' => Kept [] w8 w' ∧ Rd w' u6 [y])
    (fun u6 u7 w' => Kept [] w8 w' ∧ Rd w' u7 (P ++ [y]))
    (fun u6 u7 u8 w' => Kept [] w8 w' ∧ Rd w' u8 (frB a (P ++ [y])))
    (fun u6 u7 u8 => u8)
    (by simp only [Act.put, List.setIfInBounds_toArray, List.set_cons_zero, List.set_cons_succ]; rfl) (by exact Or.inl ⟨by rfl, fun W' hW' => by go_simp⟩)
    (by simp only [Act.put, List.setIfInBounds_toArray, List.set_cons_zero, List.set_cons_succ]; rfl) (by exact Or.inl ⟨by rfl, fun W' hW' => run_load1 24 _ rfl ⟨w.heap.size, 0, none⟩ rfl W' _ .u64 Tryz.underlying24 hW'.1⟩)
    (by simp only [Act.put, List.setIfInBounds_toArray, List.set_cons_zero, List.set_cons_succ]; rfl) (by exact Or.inl ⟨by rfl, fun W' hW' => by go_simp⟩)
    (by simp only [Act.put, List.setIfInBounds_toArray, List.set_cons_zero, List.set_cons_succ]; rfl) (by exact Or.inl ⟨by rfl, fun W' hW' => by go_simp⟩)
    (by simp only [Act.put, List.setIfInBounds_toArray, List.set_cons_zero, List.set_cons_succ]; rfl) (by exact Or.inl ⟨by rfl, fun W' hW' => run_load1 3 _ rfl ⟨w.heap.size, 3, none⟩ rfl W' _ .i64 (by kernel_rfl) hW'.2⟩)
    (by simp only [Act.put, List.setIfInBounds_toArray, List.set_cons_zero, List.set_cons_succ]; rfl) (by exact Or.inl ⟨by rfl, fun W' hW' => by go_simp⟩)
    ((Kept.refl [] w8).drew)
    ⟨fun w' h => unhide HS8 w' h, fun u3 w' h => unhide HS8 w' h.1, fun u3 u6 w' h => unhide HS8 w' h.1, fun u3 u6 u7 w' h => unhide HS8 w' h.1⟩
    (by
      rintro w' k K hK
      exact wp_litb _ rfl y rfl (hK _ _ ⟨k.alloc _, rd_row [y] (heap_alloc_new w' _) rfl (by intro x hx; rw [List.mem_singleton] at hx; subst hx; exact (unhide HY).2) 1 rfl (by decide)⟩))
    (by
      rintro u6 w' ⟨k, r6⟩ K hK
      refine wp_callN rfl Tryz.call27 [.slice a8 m8 c8, u6] rfl (join_any _ _ P [y] w' ((unhide HR8).old k (by simp)) r6 (by rw [unhide HPL]; simp)) ?_
      rintro e w2 ⟨v7, rfl, r7, k2, _⟩
      exact ⟨_, rfl, hK _ _ ⟨k.trans k2 (by simp), r7⟩⟩)
    (by
      rintro u6 u7 w' ⟨k, r7⟩ K hK
      refine wp_callN rfl Tryz.call75 [.int .u64 (a : Int), u7] rfl (refLaid_any a _ (P ++ [y]) w' r7 ha (by rw [List.length_append, unhide HPL]; simp)) ?_
      rintro e w2 ⟨v8, rfl, r8, k2, _⟩
      exact ⟨_, rfl, hK _ _ ⟨k.trans k2 (by simp), r8⟩⟩)
    (by rintro u6 u7 u8 w' ⟨k, r8⟩; exact Or.inl ⟨by rfl, fun W' hW' => by go_simp⟩)
    ?_
  rintro u6 u7 v9 w9 ⟨k9, r9⟩
  simp only [Act.put, List.setIfInBounds_toArray, List.set_cons_zero, List.set_cons_succ]
  have HK9 := hide ((unhide HKw8).trans k9 (by simp))
  have HR9 := hide r9
  clear k9 r9
  go_wp2
  go_ret
  exact ⟨_, rfl, by rw [unhide HPE]; exact unhide HR9, unhide HK9⟩
end Go.Proofs.YtckkalmhekfnhabGreatDoor
namespace Go.Proofs.YtckkalmhekfnhabGreatDoor
open Go.RowKit Go.BigFrame
set_option linter.unusedVariables false
set_option linter.unusedSimpArgs false

def tri (n : Nat) : Prop := n = 0 ∨ n = 2 ∨ n = 3
theorem chkE_tri (e : En) : tri (chkE e) := by
  unfold chkE tri; split
  · simp
  · split <;> simp
theorem cntE_tri (f n : Nat) : tri (cntE f n) := by
  unfold cntE tri; split
  · simp
  · split <;> simp
theorem least_tri {a b : Nat} (ha : tri a) (hb : tri b) : tri (leastE a b) := by
  unfold leastE; split
  · exact hb
  · exact ha
theorem fold_tri (es : List En) : ∀ z, tri z → tri (es.foldl (fun a e => leastE a (chkE e)) z) := by
  induction es with
  | nil => intro z h; exact h
  | cons x xs ih => intro z h; exact ih _ (least_tri h (chkE_tri x))
theorem least_two {b : Nat} (hb : tri b) : leastE 2 b = 2 := by
  unfold leastE
  rcases hb with h | h | h <;> subst h <;> rfl
theorem least_two' {a : Nat} (ha : tri a) : leastE a 2 = 2 := by
  unfold leastE
  rcases ha with h | h | h <;> subst h <;> rfl
theorem fold_two (es : List En) : es.foldl (fun a e => leastE a (chkE e)) 2 = 2 := by
  induction es with
  | nil => rfl
  | cons x xs ih => rw [List.foldl_cons, least_two (chkE_tri x)]; exact ih
theorem chkB_long {f : Nat} {es : List En} (h : 64 < es.length) : chkB f es = 2 := by
  unfold chkB
  rw [show cntE f es.length = 2 by unfold cntE; rw [if_pos h]]
  exact fold_two es
theorem chkB_at {f : Nat} {es : List En} (i : Nat) (h : i < es.length) (h2 : chkE es[i] = 2) : chkB f es = 2 := by
  unfold chkB
  have e : es = es.take i ++ (es[i] :: es.drop (i + 1)) := by
    rw [← List.drop_eq_getElem_cons h, List.take_append_drop]
  conv => lhs; rw [e, List.foldl_append, List.foldl_cons]
  rw [← e, h2, least_two' (fold_tri _ _ (cntE_tri _ _))]
  exact fold_two _
theorem least_max {a b : Nat} (ha : tri a) (ha2 : a ≠ 2) (hb : tri b) (hb2 : b ≠ 2) : leastE a b = max a b := by
  unfold leastE
  rcases ha with h | h | h <;> rcases hb with h' | h' | h' <;> subst h <;> subst h' <;> first | rfl | (exact absurd rfl ha2) | (exact absurd rfl hb2)

set_option maxRecDepth 100000 in
set_option maxHeartbeats 1000000 in
theorem fits5_any (f n : Nat) (w : World) (hf : f < 18446744073709551616) (hn : n < 9223372036854775808) :
    Calls Tryz.prog 80 #[.int .u64 f, .int .i64 n] w fun r w' => r = .returned (.bool (decide (f + n < 18446744073709551616))) ∧ w' = w := by
  have h1 : IntKind.u64.wrap (n : Int) = n := by simp [IntKind.wrap, IntKind.signed, IntKind.bits]; omega
  by_cases h : f + n < 18446744073709551616
  · have h2 : IntKind.u64.wrap ((f : Int) + n) = f + n := by simp [IntKind.wrap, IntKind.signed, IntKind.bits]; omega
    have h2' : ((f : Int) + n) % 18446744073709551616 = f + n := by omega
    have h3 : (f : Int) ≤ f + n := by omega
    have HD := hide (decide_eq_true h)
    go_enter Tryz.func80, Tryz.ntmps80
    go_wp2
    go_ret
    exact ⟨by first | rfl | (rw [unhide HD]; rfl), rfl⟩
  · have h2 : IntKind.u64.wrap ((f : Int) + n) = f + n - 18446744073709551616 := by simp [IntKind.wrap, IntKind.signed, IntKind.bits]; omega
    have h2' : ((f : Int) + n) % 18446744073709551616 = f + n - 18446744073709551616 := by omega
    have h3 : ¬ (f : Int) ≤ f + n - 18446744073709551616 := by omega
    have HD := hide (decide_eq_false h)
    go_enter Tryz.func80, Tryz.ntmps80
    go_wp2
    go_ret
    exact ⟨by first | rfl | (rw [unhide HD]; rfl), rfl⟩

end Go.Proofs.YtckkalmhekfnhabGreatDoor
