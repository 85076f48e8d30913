import Derived.Test.YtckkalmhekfnhaaGreatDoorTorB
import Derived.Test.YtckkalmhekfnhaaGreatDoorEBat2
import Derived.Test.YtckkalmhekfnhaaGreatDoorFEnc
import Derived.Test.YtckkalmhekfnhaaGreatDoorTorA
namespace Go.Proofs.YtckkalmhekfnhaaGreatDoor
open Go.RowKit Go.BigFrame
set_option linter.unusedVariables false
set_option linter.unusedSimpArgs false

theorem batB_lenS {f : Nat} {es : List En} (h : chkB f es = 0) (hf : f < 18446744073709551616) : 0 < (batB f es).length ∧ (batB f es).length ≤ 30000 := by
  obtain ⟨h1, h2, _, h4⟩ := chkB_zero h
  have h5 := entB_len es h4
  have h6 := uv_len f hf
  have h7 := uv_len es.length (by omega)
  have h8 : 0 < (uv f).length := uv_pos f
  unfold batB
  simp only [List.length_append]
  omega
/-- The frame of a batch. -/
def sbB (f : Nat) (es : List En) : List Nat := if chkB f es = 0 then frB f (batB f es) else []

set_option maxRecDepth 100000 in
set_option maxHeartbeats 2000000 in
theorem segBatch_any (f : Nat) (v : Value) (es : List En) (w : World) (hf : f < 18446744073709551616) (h : RdN w v es) :
    Calls Tryz.prog 17 #[.agg #[.int .u64 f, v]] w fun r w' => ∃ v', r = .returned (.tuple #[v', .int .i64 (chkB f es)]) ∧ NewB w w' v' (sbB f es) ∧ Kept [] w w' := by
  have H := hide h
  obtain ⟨a1, n1, c1, _, _, rfl, _⟩ := id h
  clear h
  obtain ⟨B, hB⟩ : ∃ B, sbB f es = B := ⟨_, rfl⟩
  have HBB := hide hB.symm
  rw [hB]
  clear hB
  have HK0 := hide ((Kept.refl [] w).alloc (.cells #[.int .u64 f, .slice a1 n1 c1] 35))
  have HB0 := hide (heap_alloc_new w (.cells #[.int .u64 f, .slice a1 n1 c1] 35))
  obtain ⟨W1, hW1⟩ : ∃ W, w.alloc (.cells #[.int .u64 f, .slice a1 n1 c1] 35) = W := ⟨_, rfl⟩
  rw [hW1] at HK0 HB0
  have HW1 := hide hW1
  clear hW1
  obtain ⟨d0, d1⟩ := bcells (unhide HB0)
  rw [← unhide HW1] at d0 d1
  go_enter Tryz.func17, Tryz.ntmps17
  go_wp2_with fail
  rw [unhide HW1]
  clear d0 d1
  refine Calls.mono (encodeBatch_any f _ es W1 hf ((unhide H).old (unhide HK0))) ?_
  rintro e w2 ⟨v2, rfl, n2, k2⟩
  obtain ⟨a2, l2, c2, rfl, _⟩ := id n2.1
  have HN2 := hide n2
  have HK2 := hide ((unhide HK0).trans k2 (by simp))
  have HB2 := hide (k2.heap (unhide HB0) (by simp))
  clear n2 k2
  by_cases hc : chkB f es = 0
  · have HB := hide (by simp [sbB, hc] : sbB f es = frB f (batB f es))
    have HL := hide (batB_lenS hc hf)
    rw [if_pos hc] at HN2
    rw [hc]
    obtain ⟨d0, d1⟩ := bcells (unhide HB2)
    go_wp2_with fail
    refine Calls.mono (encode_any f _ (batB f es) w2 (unhide HN2).1 hf) ?_
    rintro e w3 ⟨v3, rfl, n3, k3⟩
    rw [encE_good (by have := (unhide HL).1; omega) (by have := (unhide HL).2; omega)]
    rw [encB_good (by have := (unhide HL).1; omega) (by have := (unhide HL).2; omega)] at n3
    have HN3 := hide n3
    have HK3 := hide ((unhide HK2).trans k3 (by simp))
    obtain ⟨a3, l3, c3, rfl, _⟩ := id n3.1
    clear n3 k3 d0 d1
    go_wp2
    go_ret2
    exact ⟨_, by rw [hc]; rfl, by rw [unhide HBB, unhide HB]; exact (unhide HN3).weak (unhide HK2).size, unhide HK3⟩
  · have HB := hide (by simp [sbB, hc] : sbB f es = [])
    have hc' : ((chkB f es : Int) != 0) = true := by rw [bne_iff_ne]; omega
    go_wp2
    go_ret2
    exact ⟨_, rfl, by rw [unhide HBB, unhide HB]; exact NewB.nil _ _, unhide HK2⟩
end Go.Proofs.YtckkalmhekfnhaaGreatDoor
namespace Go.Proofs.YtckkalmhekfnhaaGreatDoor
open Go.RowKit Go.BigFrame
set_option linter.unusedVariables false
set_option linter.unusedSimpArgs false

theorem results_cell_tmp {P : Program} {fn : Func} {p q : Tmp} {ty : TypeId} (h : fn.results = #[.cell p ty, .tmp q]) (tmps : Array Value) (w : World) (g : Nat) (t : TypeId) (cs : Array Value) (fr : Nat × Nat) (d : TypeDesc)
    (hp : tmps.getD p undef = .pointer (some ⟨g, 0, none⟩)) (hg : w.heap[g]? = some (.cells cs t fr))
    (hu : P.underlying ty = some d) (hd : (match d with | .struct _ | .array _ _ => true | _ => false) = true) (hi : (P.info? ty).map (·.size) = some cs.size) (v : Value) (hq : tmps.getD q undef = v) :
    (results fn tmps).run P w = .ok (.tuple #[.agg cs, v]) w := by
  have hp' : tmps[p]?.getD undef = .pointer (some ⟨g, 0, none⟩) := by simpa using hp
  have hq' : tmps[q]?.getD undef = v := by simpa using hq
  simp [results, h, hp', hq', asAddr, run_loadVar_row w g t ty cs fr d hg hu hd hi]
/-- What a batch reads stays, whatever turns outside its own memory. -/
theorem NewN.stay {B : Nat} {M : List Nat} {w w' : World} {v : Value} {es : List En} (h : NewN B w v es) (k : Kept M w w') (hM : ∀ x ∈ M, x < B ∨ w.heap.size ≤ x) : RdN w' v es := by
  have k2 : Kept (M.filter (· < B)) w w' := ⟨k.os, k.tape, k.output, k.size, fun j hj hn => k.block j hj (fun hm => hn (by
    rw [List.mem_filter]
    refine ⟨hm, ?_⟩
    have := hM j hm
    simp; omega))⟩
  exact (h.kept k2 (fun x hx => by rw [List.mem_filter] at hx; simpa using hx.2)).rdN
/-- The cells of batches. -/
def cellsB (ts : List (Nat × Value × List En)) : List Value := ts.flatMap fun t => [.int .u64 (t.1 : Int), t.2.1]
theorem cellsB_app (ts : List (Nat × Value × List En)) (t : Nat × Value × List En) : cellsB (ts ++ [t]) = cellsB ts ++ [.int .u64 (t.1 : Int), t.2.1] := by simp [cellsB]
theorem cellsB_get : ∀ (ts : List (Nat × Value × List En)) (i : Nat) (h : i < ts.length), (cellsB ts)[2 * i]? = some (.int .u64 (ts[i].1 : Int)) ∧ (cellsB ts)[2 * i + 1]? = some ts[i].2.1
  | t :: r, 0, _ => by simp [cellsB]
  | t :: r, i + 1, h => by
    have h' : i < r.length := by simpa using h
    have := cellsB_get r i h'
    have e : cellsB (t :: r) = (.int .u64 (t.1 : Int)) :: t.2.1 :: cellsB r := by simp [cellsB]
    rw [e, show 2 * (i + 1) = 2 * i + 1 + 1 by omega]
    simpa using this
theorem Tryz.infoBt : (Tryz.prog.info? 35).map (fun i => (i.zero, i.size, i.bytes)) = some (some (.agg #[.int .u64 0, .slice none 0 0]), 2, 32) := by kernel_rfl
/-- Batches that are owned, each with memory of its own. -/
structure OwnB (w0 w : World) (v : Value) (ts : List (Nat × Value × List En)) : Prop where
  own : w.ownsRow w0.heap.size 35 2 v ts.length (cellsB ts)
  rd : ∀ t ∈ ts, ∃ B C, C ≤ w.heap.size ∧ w0.heap.size ≤ B ∧ (∀ b, v.ownBlock = some b → b < B ∨ C ≤ b) ∧ ∀ M w', Kept M w w' → (∀ x ∈ M, x < B ∨ C ≤ x) → RdN w' t.2.1 t.2.2
  sz : w0.heap.size ≤ w.heap.size
/-- The slice value v reads as these batches. -/
def RdB (w : World) (v : Value) (bs : List (Nat × List En)) : Prop :=
  ∃ (ao : Option Addr) (cap : Nat) (ts : List (Nat × Value × List En)), v = .slice ao ts.length cap ∧ bs = ts.map (fun t => (t.1, t.2.2)) ∧ ts.length ≤ cap ∧ cap ≤ 9223372036854775807 ∧ (∀ t ∈ ts, RdN w t.2.1 t.2.2) ∧
    (0 < ts.length → ∃ b off, ao = some ⟨b, off, none⟩ ∧ ∀ i (h : i < ts.length), w.cell? ⟨b, off + i * 2, none⟩ = some (.int .u64 (ts[i].1 : Int)) ∧ w.cell? ⟨b, off + i * 2 + 1, none⟩ = some ts[i].2.1)
theorem RdB.old {w w' : World} {v : Value} {fs : List (Nat × List En)} (h : RdB w v fs) (k : Kept [] w w') : RdB w' v fs := by
  obtain ⟨ao, cap, ts, h1, h2, h3, h4, h5, h6⟩ := h
  refine ⟨ao, cap, ts, h1, h2, h3, h4, fun t ht => (h5 t ht).old k, fun hp => ?_⟩
  obtain ⟨b, off, e, hc⟩ := h6 hp
  exact ⟨b, off, e, fun i hi => ⟨k.cell (hc i hi).1 (by simp), k.cell (hc i hi).2 (by simp)⟩⟩
theorem RdB.nil (w : World) : RdB w (.slice none 0 0) [] := ⟨none, 0, [], rfl, rfl, Nat.le_refl _, by omega, by simp, fun h => by simp at h⟩
theorem OwnB.start (w : World) : OwnB w w (.slice none 0 0) [] := ⟨World.ownsRow_nil _ _ _ _, by simp, Nat.le_refl _⟩
theorem OwnB.rdB {w0 w : World} {v : Value} {ts : List (Nat × Value × List En)} (h : OwnB w0 w v ts) : RdB w v (ts.map fun t => (t.1, t.2.2)) := by
  have hr : ∀ t ∈ ts, RdN w t.2.1 t.2.2 := fun t ht => by obtain ⟨B, C, _, _, _, h5⟩ := h.rd t ht; exact h5 [] w (Kept.refl _ _) (by simp)
  rcases h.own.2 with ⟨rfl, h0⟩ | ⟨g, cap, cur, rfl, _, hg, hc, hm', hs, ht⟩
  · have : ts = [] := List.eq_nil_of_length_eq_zero h0
    subst this
    exact RdB.nil _
  · refine ⟨some ⟨g, 0, none⟩, cap, ts, rfl, rfl, hc, by unfold maxLen at hm'; omega, hr, fun _ => ⟨g, 0, rfl, fun i hi => ?_⟩⟩
    have hx := cellsB_get ts i hi
    have c1 := h.own.cells (g := g) rfl (2 * i) _ hx.1
    have c2 := h.own.cells (g := g) rfl (2 * i + 1) _ hx.2
    rw [Addr.add_mid] at c1 c2
    refine ⟨?_, ?_⟩
    · rw [show 0 + i * 2 = 0 + 2 * i by omega]; exact c1
    · rw [show 0 + i * 2 + 1 = 0 + (2 * i + 1) by omega]; exact c2
theorem OwnB.pass {w0 w w' : World} {M : List Nat} {v : Value} {ts : List (Nat × Value × List En)} (h : OwnB w0 w v ts) (k : Kept M w w') (hM : ∀ x ∈ M, x < w0.heap.size) : OwnB w0 w' v ts := by
  refine ⟨k.owns h.own (fun b hb hm => by have := (h.own.lt b hb).1; have := hM b hm; omega), fun t ht => ?_, Nat.le_trans h.sz k.size⟩
  obtain ⟨B, C, h1, h2, h3, h4⟩ := h.rd t ht
  refine ⟨B, C, Nat.le_trans h1 k.size, h2, h3, fun N w2 kN hN => h4 (M ++ N) w2 ((k.mono (M := M ++ N) (fun x hx => by simp [hx])).trans kN (fun x hx => Or.inl (by simp [hx]))) (fun x hx => ?_)⟩
  rcases List.mem_append.1 hx with hx | hx
  · have := hM x hx; omega
  · exact hN x hx
theorem OwnB.push {w0 w W : World} {v : Value} {ts : List (Nat × Value × List En)} (h : OwnB w0 w v ts) {pl B : Nat} {y : Value} {es : List En} (hy : NewN B w y es) (hB : w0.heap.size ≤ B) (hBv : ∀ b, v.ownBlock = some b → b < B) {g cap : Nat}
    (o : W.ownsRow w0.heap.size 35 2 (.slice (some ⟨g, 0, none⟩) (ts.length + 1) cap) (ts.length + 1) (cellsB ts ++ [.int .u64 (pl : Int), y])) (gr : w.grownBy W v.ownBlock) (hg : v.ownBlock = some g ∨ g = w.heap.size) :
    OwnB w0 W (.slice (some ⟨g, 0, none⟩) (ts.length + 1) cap) (ts ++ [(pl, y, es)]) := by
  have kW : Kept v.ownBlock.toList w W := ((Kept.refl _ w)).grown gr (by intro k hk; left; simp [hk])
  refine ⟨by rw [cellsB_app, List.length_append]; exact o, fun t ht => ?_, Nat.le_trans h.sz kW.size⟩
  rcases List.mem_append.1 ht with ht | ht
  · obtain ⟨B1, C, h1, h2, h3, h4⟩ := h.rd t ht
    refine ⟨B1, C, Nat.le_trans h1 kW.size, h2, fun b hb => ?_, fun N w2 kN hN => h4 (v.ownBlock.toList ++ N) w2 ((kW.mono (M := v.ownBlock.toList ++ N) (fun x hx => List.mem_append_left _ hx)).trans kN (fun x hx => Or.inl (by simp [hx]))) (fun x hx => ?_)⟩
    · simp only [Value.ownBlock, Option.some.injEq] at hb
      subst hb
      rcases hg with hg | hg
      · exact h3 _ hg
      · omega
    · rcases List.mem_append.1 hx with hx | hx
      · exact h3 x (by simpa using hx)
      · exact hN x hx
  · rw [List.mem_singleton] at ht
    subst ht
    refine ⟨B, w.heap.size, kW.size, hB, fun b hb => ?_, fun N w2 kN hN => hy.stay (M := v.ownBlock.toList ++ N) ((kW.mono (M := v.ownBlock.toList ++ N) (fun x hx => List.mem_append_left _ hx)).trans kN (fun x hx => Or.inl (by simp [hx]))) (fun x hx => ?_)⟩
    · simp only [Value.ownBlock, Option.some.injEq] at hb
      subst hb
      rcases hg with hg | hg
      · exact Or.inl (hBv _ hg)
      · omega
    · rcases List.mem_append.1 hx with hx | hx
      · exact Or.inl (hBv x (by simpa using hx))
      · exact hN x hx
/-- One batch more. -/
theorem pushB (w : World) (base : Nat) (v : Value) (ts : List (Nat × Value × List En)) (pl : Nat) (x : Value) (H : Nat) (h : w.ownsRow base 35 2 v ts.length (cellsB ts)) (hnew : w.heap[H]? = some (.cells #[.int .u64 (pl : Int), x] 35 (0, 0))) (hx : x.oneCell' = true) (hl : ts.length + 1 ≤ 1000000000000) (hb : base ≤ w.heap.size) :
    ∃ g cap w1, (Builtin.append_ #[49, 49] 49 #[v, .slice (some ⟨H, 0, none⟩) 1 1]).run Tryz.prog w = .ok (.slice (some ⟨g, 0, none⟩) (ts.length + 1) cap) w1 ∧
      w1.ownsRow base 35 2 (.slice (some ⟨g, 0, none⟩) (ts.length + 1) cap) (ts.length + 1) (cellsB ts ++ [.int .u64 (pl : Int), x]) ∧ w.grownBy w1 v.ownBlock ∧ (v.ownBlock = some g ∨ g = w.heap.size) := by
  obtain ⟨i0, hi, hz0, hz1, hz2⟩ := info_parts Tryz.infoBt
  obtain ⟨g, cap, w1, hr, hown, hgrow, hat, hlt⟩ := run_append_lies (P := Tryz.prog) w 49 49 base 35 i0 (.agg #[.int .u64 0, .slice none 0 0]) 2 32 Tryz.underlying49 hi hz0 hz1 hz2 rfl (by decide)
    v ts.length (cellsB ts) h ⟨H, 0, none⟩ 1 1 [.int .u64 (pl : Int), x] rfl (World.news_of_block hnew) (by intro u hu; simp at hu; rcases hu with rfl | rfl; rfl; exact hx) (by decide) (by unfold maxLen; omega) (by omega) hb _ rfl
  exact ⟨g, cap, w1, hr, hown, hgrow, hat⟩
theorem wpList_pushB {ops : Array Oper} {rest : List Oper} {o : Oper} {a : Act} {Q : Exit → Act → World → Prop} (hgd : o.guard = none) (s x : Operand)
    (ho : o.op = .call { callee := .builtin .append, args := #[s, x], argTypes := #[49, 49] }) (hty : o.type = 49)
    (w : World) (base : Nat) (v : Value) (ts : List (Nat × Value × List En)) (pl : Nat) (y : Value) (H : Nat) (h : w.ownsRow base 35 2 v ts.length (cellsB ts)) (hnew : w.heap[H]? = some (.cells #[.int .u64 (pl : Int), y] 35 (0, 0))) (hy : y.oneCell' = true) (hl : ts.length + 1 ≤ 1000000000000) (hb : base ≤ w.heap.size)
    (hs : a.eval s = v) (hx : a.eval x = .slice (some ⟨H, 0, none⟩) 1 1)
    (hK : ∀ g cap w1, Hid (w1.ownsRow base 35 2 (.slice (some ⟨g, 0, none⟩) (ts.length + 1) cap) (ts.length + 1) (cellsB ts ++ [.int .u64 (pl : Int), y])) → Hid (w.grownBy w1 v.ownBlock) → Hid (v.ownBlock = some g ∨ g = w.heap.size) →
      wpList Tryz.prog ops Q rest (a.put o.dst (.slice (some ⟨g, 0, none⟩) (ts.length + 1) cap)) w1) :
    wpList Tryz.prog ops Q (o :: rest) a w := by
  obtain ⟨g, cap, w1, hrun, h2, h3, h4⟩ := pushB w base v ts pl y H h hnew hy hl hb
  refine wpList_plain hgd fun K hK' => ?_
  unfold Oper.wp execOp
  simp only [ho, hty, resolve, invoke, builtin, Sem.run_bind, Sem.run_pure, Result.andThen_ok, List.map_toArray, List.map_cons, List.map_nil, hs, hx, hrun]
  exact hK' _ _ (hK g cap w1 h2 h3 h4)

theorem scells {w : World} {b : Nat} {x0 x1 x2 x3 x4 x5 : Value} {t : TypeId} (h : w.heap[b]? = some (.cells #[x0, x1, x2, x3, x4, x5] t (0, 0))) : w.cell? ⟨b, 0, none⟩ = some x0 ∧ w.cell? ⟨b, 1, none⟩ = some x1 ∧ w.cell? ⟨b, 2, none⟩ = some x2 ∧ w.cell? ⟨b, 3, none⟩ = some x3 ∧ w.cell? ⟨b, 4, none⟩ = some x4 ∧ w.cell? ⟨b, 5, none⟩ = some x5 := by
  refine ⟨?_, ?_, ?_, ?_, ?_, ?_⟩ <;> rw [cell_of_row _ _ _ _ _ _ h] <;> rfl
theorem sfroz {w : World} {b : Nat} {cs : Array Value} {t : TypeId} (h : w.heap[b]? = some (.cells cs t (0, 0))) : w.frozen? ⟨b, 0, none⟩ = false ∧ w.frozen? ⟨b, 1, none⟩ = false ∧ w.frozen? ⟨b, 2, none⟩ = false ∧ w.frozen? ⟨b, 3, none⟩ = false ∧ w.frozen? ⟨b, 4, none⟩ = false ∧ w.frozen? ⟨b, 5, none⟩ = false :=
  ⟨frozen_of_row _ _ _ _ _ h, frozen_of_row _ _ _ _ _ h, frozen_of_row _ _ _ _ _ h, frozen_of_row _ _ _ _ _ h, frozen_of_row _ _ _ _ _ h, frozen_of_row _ _ _ _ _ h⟩
theorem put6_heap {w : World} {g : Nat} {a b c d e f : Value} {t : TypeId} (h : w.heap[g]? = some (.cells #[a, b, c, d, e, f] t (0, 0))) (x y z u r s : Value) : ((((((w.setCell ⟨g, 0, none⟩ x).setCell ⟨g, 1, none⟩ y).setCell ⟨g, 2, none⟩ z).setCell ⟨g, 3, none⟩ u).setCell ⟨g, 4, none⟩ r).setCell ⟨g, 5, none⟩ s).heap[g]? = some (.cells #[x, y, z, u, r, s] t (0, 0)) := by
  rw [heap_setCell_same _ g 5 _ t _ (heap_setCell_same _ g 4 _ t _ (heap_setCell_same _ g 3 _ t _ (heap_setCell_same _ g 2 _ t _ (heap_setCell_same _ g 1 _ t _ (heap_setCell_same w g 0 _ t _ h)))))]; rfl
theorem put6_kept {L : List Nat} {w0 w : World} (k : Kept L w0 w) (g : Nat) (hg : g ∈ L ∨ w0.heap.size ≤ g) (x y z u r s : Value) : Kept L w0 ((((((w.setCell ⟨g, 0, none⟩ x).setCell ⟨g, 1, none⟩ y).setCell ⟨g, 2, none⟩ z).setCell ⟨g, 3, none⟩ u).setCell ⟨g, 4, none⟩ r).setCell ⟨g, 5, none⟩ s) := (((((k.setCell hg x).setCell hg y).setCell hg z).setCell hg u).setCell hg r).setCell hg s
theorem Tryz.size_seg : (Tryz.prog.info? 51).map (·.size) = some 6 := by kernel_rfl
theorem put45_heap {w : World} {g : Nat} {a b c d e f : Value} {t : TypeId} (h : w.heap[g]? = some (.cells #[a, b, c, d, e, f] t (0, 0))) (r s : Value) : ((w.setCell ⟨g, 4, none⟩ r).setCell ⟨g, 5, none⟩ s).heap[g]? = some (.cells #[a, b, c, d, r, s] t (0, 0)) := by
  rw [heap_setCell_same _ g 5 _ t _ (heap_setCell_same _ g 4 _ t _ h)]; rfl

/-- The batches from the place z on, the next index being i, and where they end. -/
def rdL : Nat → List Nat → Nat → Nat → List (Nat × List En) × Nat
  | 0, _, z, _ => ([], z)
  | k + 1, p, z, i => if rbOk p z i then ((i, rbE p z i) :: (rdL k p (rbN p z i).toNat ((i + (rbE p z i).length) % 18446744073709551616)).1, (rdL k p (rbN p z i).toNat ((i + (rbE p z i).length) % 18446744073709551616)).2) else ([], z)
theorem rdL_no {k z i : Nat} {p : List Nat} (h : rbOk p z i = false) : rdL k p z i = ([], z) := by
  cases k with
  | zero => rfl
  | succ k => rw [rdL, h]; rfl
theorem rdL_yes {k z i : Nat} {p : List Nat} (h : rbOk p z i = true) : rdL (k + 1) p z i = ((i, rbE p z i) :: (rdL k p (rbN p z i).toNat ((i + (rbE p z i).length) % 18446744073709551616)).1, (rdL k p (rbN p z i).toNat ((i + (rbE p z i).length) % 18446744073709551616)).2) := by
  rw [rdL, if_pos h]
/-- What Read answers. -/
def sgB (p : List Nat) : List (Nat × List En) := if (hdF p).isSome then (rdL p.length p 48 (hdC p).c).1 else []
def sgU (p : List Nat) : Nat := if (hdF p).isSome then (rdL p.length p 48 (hdC p).c).2 else 0
def sgE (p : List Nat) : Nat := if (hdF p).isSome then 0 else 3
theorem rb_next {p : List Nat} {z i : Nat} (hb : ∀ x ∈ p, x < 256) (h : rbOk p z i = true) : ∃ n : Nat, rbN p z i = (n : Int) ∧ z + 18 < n ∧ n ≤ p.length := by
  have hn : rbN p z i = (nextF p z).next := by simp [rbN, h]
  have hk : (nextF p z).kind = 1 := by unfold rbOk at h; simp at h; exact h.1
  rcases nextF_cases p z hb with ⟨_, hN⟩ | ⟨_, hN⟩ | ⟨m, pl, pay, hzn, hN, b1, b2, b3, b4, b5, b6, b7⟩
  · rw [hN] at hk; simp at hk
  · rw [hN] at hk; simp at hk
  · rw [hN] at hn
    refine ⟨m + 18 + pay.length, hn, by omega, b5⟩
end Go.Proofs.YtckkalmhekfnhaaGreatDoor
namespace Go.Proofs.YtckkalmhekfnhaaGreatDoor
open Go.RowKit Go.BigFrame
set_option linter.unusedVariables false
set_option linter.unusedSimpArgs false

set_option maxRecDepth 100000 in
set_option maxHeartbeats 4000000 in
theorem read_any (v : Value) (p : List Nat) (w : World) (h : Rd w v p) (hl : p.length ≤ 100000000000) :
    Calls Tryz.prog 21 #[v] w fun e w' => ∃ bv, e = .returned (.tuple #[.agg #[.int .u64 (hdC p).a, .int .u64 (hdC p).b, .int .u64 (hdC p).c, .int .i64 (hdC p).d, bv, .int .i64 (sgU p)], .int .i64 (sgE p)]) ∧ RdB w' bv (sgB p) ∧ Kept [] w w' ∧ ∀ M w2, Kept M w' w2 → (∀ x ∈ M, x < w.heap.size) → RdB w2 bv (sgB p) := by
  have H := hide h
  obtain ⟨a1, n1, c1, rfl, hn1, _⟩ := id h
  subst hn1
  clear h
  have HZ0 := hide (heap_alloc_new w (.cells #[.int .u64 0, .int .u64 0, .int .u64 0, .int .i64 0, .slice none 0 0, .int .i64 0] 51))
  have HK0 := hide ((Kept.refl [] w).alloc (.cells #[.int .u64 0, .int .u64 0, .int .u64 0, .int .i64 0, .slice none 0 0, .int .i64 0] 51))
  have HLP := hide hl
  obtain ⟨X, hX⟩ : ∃ X, hdC p = X := ⟨_, rfl⟩
  obtain ⟨T, hT⟩ : ∃ T, rdL p.length p 48 X.c = T := ⟨_, rfl⟩
  obtain ⟨U, hU⟩ : ∃ U, sgU p = U := ⟨_, rfl⟩
  obtain ⟨S, hS⟩ : ∃ S, sgB p = S := ⟨_, rfl⟩
  obtain ⟨E, hE⟩ : ∃ E, sgE p = E := ⟨_, rfl⟩
  rw [hX, hU, hS, hE]
  have HNO := hide (fun (h0 : (hdF p).isSome = false) => by
    rw [← hU, ← hS, ← hE]
    exact ⟨by rw [← hX]; rw [Option.isSome_eq_false_iff, Option.isNone_iff_eq_none] at h0; simp [hdC, h0], by simp [sgU, h0], by simp [sgB, h0], by simp [sgE, h0]⟩ : (hdF p).isSome = false → X = ⟨0, 0, 0, 0⟩ ∧ U = 0 ∧ S = [] ∧ E = 3)
  have HYE := hide (fun (h0 : (hdF p).isSome = true) => by
    rw [← hU, ← hS, ← hE, ← hT, ← hX]
    exact ⟨by simp [sgU, h0], by simp [sgB, h0], by simp [sgE, h0]⟩ : (hdF p).isSome = true → U = T.2 ∧ S = T.1 ∧ E = 0)
  have HT := hide hT
  have HN48 := hide (by simp [hdN] : hdN p = if (hdF p).isSome then 48 else 0)
  clear hT hU hS hE hl
  go_enter Tryz.func21, Tryz.ntmps21
  go_wp2_with fail
  refine Calls.mono (readHead_any _ p _ ((unhide H).old (unhide HK0) (by simp))) ?_
  rintro e w1 ⟨rfl, k1⟩
  rw [hX, unhide HN48]
  clear hX
  have HZ1 := hide (k1.heap (unhide HZ0) (by simp))
  have HK1 := hide ((unhide HK0).trans k1 (by simp))
  clear k1
  have HHW := hide (heap_alloc_new w1 (.cells #[.int .u64 (X.a : Int), .int .u64 (X.b : Int), .int .u64 (X.c : Int), .int .i64 (X.d : Int)] 32))
  have HKW := hide ((unhide HK1).alloc (.cells #[.int .u64 (X.a : Int), .int .u64 (X.b : Int), .int .u64 (X.c : Int), .int .i64 (X.d : Int)] 32))
  have HZW := hide (((Kept.refl [] w1).alloc (.cells #[.int .u64 (X.a : Int), .int .u64 (X.b : Int), .int .u64 (X.c : Int), .int .i64 (X.d : Int)] 32)).heap (unhide HZ1) (by simp))
  obtain ⟨W1, hW1⟩ : ∃ W, w1.alloc (.cells #[.int .u64 (X.a : Int), .int .u64 (X.b : Int), .int .u64 (X.c : Int), .int .i64 (X.d : Int)] 32) = W := ⟨_, rfl⟩
  rw [hW1] at HHW HKW HZW
  have HW1 := hide hW1
  clear hW1
  obtain ⟨d0, d1, d2, d3, d4, d5⟩ := scells (unhide HZW)
  obtain ⟨f0, f1, f2, f3, f4, f5⟩ := sfroz (unhide HZW)
  obtain ⟨g0, g1, g2, g3⟩ := hcells (unhide HHW)
  rw [← unhide HW1] at d0 d1 d2 d3 d4 d5 f0 f1 f2 f3 f4 f5 g0 g1 g2 g3
  by_cases hok : (hdF p).isSome = true
  · rw [hok]
    simp only [if_true]
    rw [show ((48 : Nat) : Int) = 48 from rfl]
    have HV := hide (unhide HYE hok)
    clear hok HYE HNO HN48
    have HS0 := hide (heap_alloc_new W1 (.cells #[.int .u64 (X.a : Int), .int .u64 (X.b : Int), .int .u64 (X.c : Int), .int .i64 (X.d : Int), .slice none 0 0, .int .i64 48] 51))
    have HKS := hide ((Kept.refl [] W1).alloc (.cells #[.int .u64 (X.a : Int), .int .u64 (X.b : Int), .int .u64 (X.c : Int), .int .i64 (X.d : Int), .slice none 0 0, .int .i64 48] 51))
    have HSZ := hide (by rw [← unhide HW1]; simp : W1.heap.size = w1.heap.size + 1)
    rw [unhide HSZ] at HS0
    go_wp2_with fail
    rw [unhide HW1]
    have HZS := hide ((unhide HKS).heap (unhide HZW) (by simp))
    have HKw := hide ((unhide HKW).trans (unhide HKS) (by simp))
    have HLT := hide (by have := lt_of_block (unhide HZ1); omega : w.heap.size < w1.heap.size + 1)
    obtain ⟨W2, hW2⟩ : ∃ W, W1.alloc (.cells #[.int .u64 (X.a : Int), .int .u64 (X.b : Int), .int .u64 (X.c : Int), .int .i64 (X.d : Int), .slice none 0 0, .int .i64 48] 51) = W := ⟨_, rfl⟩
    have HS2 := hide (by rw [← hW2]; simp [unhide HSZ] : W2.heap.size = w1.heap.size + 1 + 1)
    rw [hW2] at HS0 HKS HZS HKw ⊢
    clear hW2 d0 d1 d2 d3 d4 d5 f0 f1 f2 f3 f4 f5 g0 g1 g2 g3 HKS
    go_loopw [8] (fun t8 wr => ∃ (n f i : Nat) (bv : Value) (ts : List (Nat × Value × List En)), t8 = .int .u64 (i : Int) ∧ Hid (n ≤ p.length + 48 ∧ p.length ≤ n + f ∧ ts.length ≤ n) ∧ Hid (T = (ts.map (fun t => (t.1, t.2.2)) ++ (rdL f p n i).1, (rdL f p n i).2)) ∧ Hid (wr.heap[w1.heap.size + 1]? = some (.cells #[.int .u64 (X.a : Int), .int .u64 (X.b : Int), .int .u64 (X.c : Int), .int .i64 (X.d : Int), bv, .int .i64 (n : Int)] 51 (0, 0))) ∧ Hid (OwnB W2 wr bv ts) ∧ Hid (Kept [] w wr) ∧ Hid (wr.heap[w.heap.size]? = some (.cells #[.int .u64 0, .int .u64 0, .int .u64 0, .int .i64 0, .slice none 0 0, .int .i64 0] 51 (0, 0)))) (fun _ wr => p.length - (intOf ((wr.cell? ⟨w1.heap.size + 1, 5, none⟩).getD undef)).toNat)
    case atStart => exact ⟨48, p.length, X.c, .slice none 0 0, [], rfl, hide ⟨by omega, by omega, by simp⟩, hide (by rw [unhide HT]; simp), HS0, hide (OwnB.start _), HKw, HZS⟩
    case round =>
      obtain ⟨n, f, i, bv, ts, rfl, HN, HR, HS, HO, HK, HZ⟩ := hrel
      obtain ⟨s0, s1, s2, s3, s4, s5⟩ := scells (unhide HS)
      have HC5 := hide s5
      go_wp2_with fail
      refine Calls.mono (readBatch_any _ p (n : Int) i wr ((unhide H).old (unhide HK) (by simp)) (by have := (unhide HN).1; have := unhide HLP; omega)) ?_
      rintro e w3 ⟨b3, rfl, nb, k3⟩
      obtain ⟨a3, n3, c3, _, _, hb3, hl3, _⟩ := id nb.rdN
      subst hb3
      have HL3 := hide hl3
      have HNB := hide nb
      have HSB := hide (k3.size)
      have HO3 := hide ((unhide HO).pass k3 (by simp))
      have HS3 := hide (k3.heap (unhide HS) (by simp))
      have HZ3 := hide (k3.heap (unhide HZ) (by simp))
      have HK3 := hide ((unhide HK).trans k3 (by simp))
      have HBB := hide (fun b hb => ((unhide HO).own.lt b hb).2 : ∀ b, bv.ownBlock = some b → b < wr.heap.size)
      have HWB := hide ((unhide HO).sz)
      clear k3 nb s0 s1 s2 s3 s4 s5 hl3 HS HO HK HZ
      obtain ⟨R, hRR⟩ : ∃ R, rbF p (n : Int) i = R := ⟨_, rfl⟩
      obtain ⟨V, hVV⟩ : ∃ V, rbN p (n : Int) i = V := ⟨_, rfl⟩
      rw [hRR, hVV]
      have HBW := hide (heap_alloc_new w3 (.cells #[.int .u64 (R : Int), .slice a3 n3 c3] 35))
      have KA := hide ((Kept.refl [] w3).alloc (.cells #[.int .u64 (R : Int), .slice a3 n3 c3] 35))
      obtain ⟨W4, hW4⟩ : ∃ W, w3.alloc (.cells #[.int .u64 (R : Int), .slice a3 n3 c3] 35) = W := ⟨_, rfl⟩
      rw [hW4] at HBW KA
      have HW4 := hide hW4
      clear hW4
      have HS4 := hide ((unhide KA).heap (unhide HS3) (by simp))
      have HZ4 := hide ((unhide KA).heap (unhide HZ3) (by simp))
      obtain ⟨s0, s1, s2, s3, s4, s5⟩ := scells (unhide HS4)
      obtain ⟨g0, g1⟩ := bcells (unhide HBW)
      obtain ⟨z0, z1, z2, z3, z4, z5⟩ := scells (unhide HZ4)
      obtain ⟨f0, f1, f2, f3, f4, f5⟩ := sfroz (unhide HZ4)
      rw [← unhide HW4] at s0 s1 s2 s3 s4 s5 g0 g1 z0 z1 z2 z3 z4 z5 f0 f1 f2 f3 f4 f5
      by_cases hrb : rbOk p (n : Int) i = true
      · rw [hrb]
        obtain ⟨m, hm, hm1, hm2⟩ := rb_next (unhide H).byte hrb
        have HRI := hide (by rw [← hRR]; simp [rbF, hrb] : R = i)
        obtain ⟨f', rfl⟩ : ∃ f', f = f' + 1 := ⟨f - 1, by have := (unhide HN).2.1; omega⟩
        have HE := hide (rdL_yes (k := f') hrb)
        rw [hm, Int.toNat_natCast] at HE
        obtain rfl : V = (m : Int) := by rw [← hVV, hm]
        obtain ⟨es, hes⟩ : ∃ es, rbE p (n : Int) i = es := ⟨_, rfl⟩
        rw [hes] at HE HNB HL3
        have HM := hide (⟨hm1, hm2⟩ : n + 18 < m ∧ m ≤ p.length)
        clear hrb hm hm1 hm2 hVV hRR hes
        have HO4 := hide (((unhide HO3).pass (unhide KA) (by simp)).pass ((Kept.refl [] W4).alloc (.cells #[.int .u64 (R : Int), .slice a3 n3 c3] 35)) (by simp))
        have HX4 := hide (((Kept.refl [] W4).alloc (.cells #[.int .u64 (R : Int), .slice a3 n3 c3] 35)).heap (unhide HS4) (by simp))
        have HY4 := hide (((Kept.refl [] W4).alloc (.cells #[.int .u64 (R : Int), .slice a3 n3 c3] 35)).heap (unhide HZ4) (by simp))
        have HG4 := hide (((Kept.refl [] W4).alloc (.cells #[.int .u64 (R : Int), .slice a3 n3 c3] 35)).heap (unhide HBW) (by simp))
        have HK4 := hide (((unhide HK3).trans (unhide KA) (by simp)).alloc (.cells #[.int .u64 (R : Int), .slice a3 n3 c3] 35))
        have HN4 := hide (((unhide HNB).kept (unhide KA) (by simp)).kept ((Kept.refl [] W4).alloc (.cells #[.int .u64 (R : Int), .slice a3 n3 c3] 35)) (by simp))
        have HH4 := hide (by rw [← unhide HW4]; exact heap_alloc2_new _ _ _ : (W4.alloc (.cells #[.int .u64 (R : Int), .slice a3 n3 c3] 35)).heap[w3.heap.size + 1]? = some (.cells #[.int .u64 (R : Int), .slice a3 n3 c3] 35 (0, 0)))
        rw [← unhide HW4] at HO4 HX4 HY4 HG4 HK4 HN4 HH4
        have HNB4 := hide (fun b hb => by have := unhide HBB b hb; have := unhide HSB; exact Nat.ne_of_lt (by omega) : ∀ b, bv.ownBlock = some b → b ≠ w3.heap.size)
        have HNS4 := hide (fun b hb => by have := ((unhide HO3).own.lt b hb).1; have := unhide HS2; omega : ∀ b, bv.ownBlock = some b → b ≠ w1.heap.size + 1)
        have HNZ4 := hide (fun b hb => by have := ((unhide HO3).own.lt b hb).1; have := unhide HS2; have := unhide HLT; omega : ∀ b, bv.ownBlock = some b → b ≠ w.heap.size)
        go_upto_region 10 with (at_builtin; refine wpList_pushB rfl (.tmp 39) (.tmp 41) rfl rfl _ W2.heap.size bv ts R (.slice a3 n3 c3) (w3.heap.size + 1) (unhide HO4).own (unhide HH4) rfl (by have := unhide HN; have := unhide HLP; omega) (unhide HO4).sz rfl rfl ?_; intro g cap w5 HO5 HG5 HA5; (have HX5 := hide (((Kept.refl (bv.ownBlock.toList) _).grown (unhide HG5) (by intro k hk; left; simp [hk])).heap (unhide HX4) (by intro hm; exact unhide HNS4 _ (by simpa using hm) rfl))); (obtain ⟨x0, x1, x2, x3, x4, x5⟩ := scells (unhide HX5)); (obtain ⟨q0, q1, q2, q3, q4, q5⟩ := sfroz (unhide HX5)))
        have HK5 := hide ((Kept.refl (bv.ownBlock.toList) _).grown (unhide HG5) (by intro k hk; left; simp [hk]))
        have HB5 := hide ((unhide HK5).heap (unhide HG4) (by intro hm; exact unhide HNB4 _ (by simpa using hm) rfl))
        have HZ5 := hide ((unhide HK5).heap (unhide HY4) (by intro hm; exact unhide HNZ4 _ (by simpa using hm) rfl))
        have HP5 := hide ((unhide HO4).push (unhide HN4) (unhide HWB) (unhide HBB) (unhide HO5) (unhide HG5) (unhide HA5))
        have HKW5 := hide ((unhide HK4).grown (unhide HG5) (fun k hk => Or.inr (by have := ((unhide HO3).own.lt k hk).1; have := unhide HS2; have := unhide HLT; omega)))
        have HSS := hide (by have := lt_of_block (unhide HX5); have := (unhide HO3).sz; have := unhide HS2; have := unhide HWB; have := unhide HSB; omega : w1.heap.size + 1 ≠ w3.heap.size)
        clear x0 x1 x2 x3 x4 x5 q0 q1 q2 q3 q4 q5 HO5 HG5 HA5 HO4 HX4 HY4 HG4 HK4 HN4 HH4 HNB4 HNS4 HNZ4 HK5 s0 s1 s2 s3 s4 s5 g0 g1 z0 z1 z2 z3 z4 z5 f0 f1 f2 f3 f4 f5 HW4 HBW KA HS4 HZ4
        have HX6 := hide (put45_heap (unhide HX5) (.slice (some ⟨g, 0, none⟩) (ts.length + 1) cap) (.int .i64 (m : Int)))
        have HK6 := hide (((Kept.refl [w1.heap.size + 1] w5).setCell (p := ⟨w1.heap.size + 1, 4, none⟩) (Or.inl (by simp)) (.slice (some ⟨g, 0, none⟩) (ts.length + 1) cap)).setCell (p := ⟨w1.heap.size + 1, 5, none⟩) (Or.inl (by simp)) (.int .i64 (m : Int)))
        have HKW6 := hide (((unhide HKW5).setCell (p := ⟨w1.heap.size + 1, 4, none⟩) (Or.inr (by have := unhide HLT; simp only; omega)) (.slice (some ⟨g, 0, none⟩) (ts.length + 1) cap)).setCell (p := ⟨w1.heap.size + 1, 5, none⟩) (Or.inr (by have := unhide HLT; simp only; omega)) (.int .i64 (m : Int)))
        generalize (w5.setCell ⟨w1.heap.size + 1, 4, none⟩ (.slice (some ⟨g, 0, none⟩) (ts.length + 1) cap)).setCell ⟨w1.heap.size + 1, 5, none⟩ (.int .i64 (m : Int)) = W6 at HX6 HK6 HKW6 ⊢
        have HB6 := hide ((unhide HK6).heap (unhide HB5) (by intro hm; exact unhide HSS (by simpa using (List.mem_singleton.1 hm).symm)))
        have HZ6 := hide ((unhide HK6).heap (unhide HZ5) (by intro hm; have := List.mem_singleton.1 hm; have := unhide HLT; omega))
        have HP6 := hide ((unhide HP5).pass (unhide HK6) (by have := unhide HS2; simp; omega))
        obtain ⟨g0, g1⟩ := bcells (unhide HB6)
        go_wp2_with fail
        go_roundw
        case rel =>
          refine ⟨m, f', (i + es.length) % 18446744073709551616, .slice (some ⟨g, 0, none⟩) (ts.length + 1) cap, ts ++ [(R, .slice a3 n3 c3, es)], ?_, hide ⟨by have := (unhide HM).2; omega, by have := (unhide HN).2.1; have := (unhide HM).1; omega, by have := (unhide HN).2.2; have := (unhide HM).1; rw [List.length_append]; simp; omega⟩, hide ?_, HX6, HP6, HKW6, HZ6⟩
          · have h9 := unhide HL3
            rw [h9, IntKind.wrap_u64]
            simp
          · rw [unhide HR, unhide HE, unhide HRI]
            simp
        case measure =>
          rw [(scells (unhide HX6)).2.2.2.2.2, unhide HC5]
          have := unhide HM
          simp [intOf]
          omega
      · rw [Bool.not_eq_true] at hrb
        rw [hrb]
        have HE := hide (rdL_no (k := f) hrb)
        have HBS := hide (by
          have h9 := (unhide HO3).own.2
          rcases h9 with ⟨rfl, _⟩ | ⟨g, cap, cur, rfl, _⟩
          · exact ⟨_, _, _, rfl⟩
          · exact ⟨_, _, _, rfl⟩ : ∃ a n c, bv = .slice a n c)
        obtain ⟨ab, nb, cb, rfl⟩ := unhide HBS
        clear hrb
        go_wp2
        rw [unhide HW4]
        refine bodyPost_ret (v := .tuple #[.agg #[.int .u64 (X.a : Int), .int .u64 (X.b : Int), .int .u64 (X.c : Int), .int .i64 (X.d : Int), .slice ab nb cb, .int .i64 (n : Int)], .int .i64 0]) ?_ rfl ⟨.slice ab nb cb, by rw [(unhide HV).1, (unhide HV).2.2, unhide HR, unhide HE]; rfl, ?_, put6_kept ((unhide HK3).trans (unhide KA) (by simp)) w.heap.size (Or.inr (Nat.le_refl _)) _ _ _ _ _ _, ?_⟩
        · exact results_cell_tmp rfl _ _ w.heap.size _ #[.int .u64 (X.a : Int), .int .u64 (X.b : Int), .int .u64 (X.c : Int), .int .i64 (X.d : Int), .slice ab nb cb, .int .i64 (n : Int)] (0, 0) _ rfl (put6_heap (unhide HZ4) _ _ _ _ _ _) Tryz.underlying51 rfl Tryz.size_seg _ rfl
        · rw [(unhide HV).2.1, unhide HR, unhide HE, List.append_nil]
          exact (((unhide HO3).pass (unhide KA) (by simp)).pass (put6_kept (L := [w.heap.size]) (Kept.refl _ W4) w.heap.size (Or.inl (by simp)) _ _ _ _ _ _) (by have := unhide HLT; have := unhide HS2; simp; omega)).rdB
        · intro M w9 k9 hM
          rw [(unhide HV).2.1, unhide HR, unhide HE, List.append_nil]
          exact ((((unhide HO3).pass (unhide KA) (by simp)).pass (put6_kept (L := [w.heap.size]) (Kept.refl _ W4) w.heap.size (Or.inl (by simp)) _ _ _ _ _ _) (by have := unhide HLT; have := unhide HS2; simp; omega)).pass k9 (fun x hx => by have := hM x hx; have := unhide HLT; have := unhide HS2; omega)).rdB
  · rw [Bool.not_eq_true] at hok
    rw [hok]
    simp only [Bool.false_eq_true, if_false]
    have HV := hide (unhide HNO hok)
    go_wp2
    rw [unhide HW1]
    refine bodyPost_ret (v := .tuple #[.agg #[.int .u64 0, .int .u64 0, .int .u64 0, .int .i64 0, .slice none 0 0, .int .i64 0], .int .i64 3]) ?_ rfl ⟨.slice none 0 0, by rw [(unhide HV).1, (unhide HV).2.1, (unhide HV).2.2.2]; rfl, by rw [(unhide HV).2.2.1]; exact RdB.nil _, put6_kept (unhide HKW) w.heap.size (Or.inr (Nat.le_refl _)) _ _ _ _ _ _, fun M w9 _ _ => by rw [(unhide HV).2.2.1]; exact RdB.nil _⟩
    exact results_cell_tmp rfl _ _ w.heap.size _ #[.int .u64 0, .int .u64 0, .int .u64 0, .int .i64 0, .slice none 0 0, .int .i64 0] (0, 0) _ rfl (put6_heap (unhide HZW) _ _ _ _ _ _) Tryz.underlying51 rfl Tryz.size_seg _ rfl
end Go.Proofs.YtckkalmhekfnhaaGreatDoor
namespace Go.Proofs.YtckkalmhekfnhaaGreatDoor
open Go.RowKit Go.BigFrame
set_option linter.unusedVariables false
set_option linter.unusedSimpArgs false

/-- Entries of bytes. -/
def byN (es : List En) : Prop := ∀ e ∈ es, e.k < 256 ∧ (∀ x ∈ e.key, x < 256) ∧ ∀ x ∈ e.val, x < 256
theorem RdN.byN {w : World} {v : Value} {es : List En} (h : RdN w v es) : byN es := by
  obtain ⟨ao, len, cap, kv, vv, h1, h2, h3, h4, h5, h6⟩ := h
  intro e he
  obtain ⟨i, hi, rfl⟩ := List.mem_iff_getElem.1 he
  exact ⟨(h5 i hi).k, (h5 i hi).key.byte, (h5 i hi).val.byte⟩
theorem enB_byte {e : En} (h9 : e.k < 256 ∧ (∀ x ∈ e.key, x < 256) ∧ ∀ x ∈ e.val, x < 256) : ∀ x ∈ enB e, x < 256 := by
  intro x hx
  unfold enB at hx
  rw [List.mem_cons, List.mem_append, List.mem_append] at hx
  rcases hx with rfl | (hx | hx) | hx
  · exact h9.1
  · exact uv_byte _ x hx
  · exact h9.2.1 x hx
  · split at hx
    · rw [List.mem_append] at hx
      rcases hx with hx | hx
      · exact uv_byte _ x hx
      · exact h9.2.2 x hx
    · simp at hx
theorem entB_byte {es : List En} (h : byN es) : ∀ x ∈ entB es, x < 256 := by
  induction es with
  | nil => simp [entB]
  | cons e r ih =>
    intro x hx
    rw [entB, List.map_cons, List.flatten_cons, List.mem_append] at hx
    rcases hx with hx | hx
    · exact enB_byte (h e (by simp)) x hx
    · exact ih (fun y hy => h y (by simp [hy])) x hx
theorem batB_byte {f : Nat} {es : List En} (h : byN es) : ∀ x ∈ batB f es, x < 256 := by
  intro x hx
  unfold batB at hx
  rw [List.mem_append, List.mem_append] at hx
  rcases hx with hx | hx | hx
  · exact uv_byte _ x hx
  · exact uv_byte _ x hx
  · exact entB_byte h x hx
theorem headB_byte (a b c : Nat) (z : Int) : ∀ x ∈ headB a b c z, x < 256 := by
  intro x hx
  unfold headB at hx
  simp only [List.mem_append, List.mem_cons, List.not_mem_nil, or_false] at hx
  rcases hx with ((((h | h | h | h | h) | h) | h) | h) | h
  · omega
  · omega
  · omega
  · omega
  · omega
  · exact wide_byte _ _ x h
  · exact wide_byte _ _ x h
  · exact wide_byte _ _ x h
  · omega
/-- What a head's payload says. -/
theorem headB_parts (a b c : Nat) (z : Int) : (headB a b c z).take 5 = [78, 84, 82, 89, 49] ∧ ((headB a b c z).drop 5).take 8 = wide a 8 ∧ ((headB a b c z).drop 13).take 8 = wide b 8 ∧ ((headB a b c z).drop 21).take 8 = wide c 8 ∧ (headB a b c z).getD 29 0 = (z % 256).toNat := by
  have ha := wide_len a 8
  have hb := wide_len b 8
  have hc := wide_len c 8
  unfold headB
  generalize wide a 8 = A at *
  generalize wide b 8 = B at *
  generalize wide c 8 = C at *
  match A, ha, B, hb, C, hc with
  | [_, _, _, _, _, _, _, _], _, [_, _, _, _, _, _, _, _], _, [_, _, _, _, _, _, _, _], _ => exact ⟨rfl, rfl, rfl, rfl, rfl⟩
theorem hdF_laid {a b c : Nat} {z : Int} (ha : a < 18446744073709551616) (hb : b < 18446744073709551616) (hc : c < 18446744073709551616) (hz : wideB z = true) (r : List Nat) : hdF (ehB a b c z ++ r) = some ⟨a, b, c, z.toNat⟩ := by
  have hB : ehB a b c z = frB a (headB a b c z) := by simp [ehB, hz]
  have hzz : 1 ≤ z ∧ z ≤ 32 := by simpa [wideB] using hz
  obtain ⟨p1, p2, p3, p4, p5⟩ := headB_parts a b c z
  have hz2 : (z % 256).toNat = z.toNat := by omega
  unfold hdF
  rw [hB, firstF_some a (headB a b c z) r ha (by rw [headB_len]; decide) (by rw [headB_len]; decide) (headB_byte a b c z)]
  have hpay : payH a (headB a b c z) = true := by
    unfold payH
    rw [p1, p2, p5, headB_len, beL_of_wide (by decide) (by omega), hz2]
    simp; omega
  simp only
  rw [if_pos hpay, p2, p3, p4, p5, hz2, beL_of_wide (by decide) (by omega), beL_of_wide (by decide) (by omega), beL_of_wide (by decide) (by omega)]
theorem nextF_at (A : List Nat) (pl : Nat) (pay t : List Nat) (hpl : pl < 18446744073709551616) (h1 : 1 ≤ pay.length) (hl : pay.length ≤ 65535) (hb : ∀ x ∈ pay, x < 256) : nextF (A ++ (frB pl pay ++ t)) (A.length : Nat) = ⟨pl, pay, ((A.length + 18 + pay.length : Nat) : Int), 1⟩ := by
  have h := firstF_some pl pay t hpl h1 hl hb
  have hlen : (A ++ (frB pl pay ++ t)).length = A.length + (pay.length + 18 + t.length) := by rw [List.length_append, List.length_append, frB_len]
  unfold nextF
  rw [if_neg (by rw [hlen]; omega), if_neg (by rw [hlen]; omega), Int.toNat_natCast, List.drop_left, h]
  simp
theorem sbB_len {f : Nat} {es : List En} (hc : chkB f es = 0) : (sbB f es).length = (batB f es).length + 18 := by
  unfold sbB; rw [if_pos hc, frB_len]
/-- A batch that was laid is read. -/
theorem rb_laid (A : List Nat) {f : Nat} {es : List En} (t : List Nat) (hc : chkB f es = 0) (hf : f < 18446744073709551616) (hb : byN es) :
    rbOk (A ++ (sbB f es ++ t)) (A.length : Nat) f = true ∧ rbE (A ++ (sbB f es ++ t)) (A.length : Nat) f = es ∧ rbN (A ++ (sbB f es ++ t)) (A.length : Nat) f = ((A.length + (sbB f es).length : Nat) : Int) := by
  have hl := batB_lenS hc hf
  have hn := nextF_at A f (batB f es) t hf (by omega) (by omega) (batB_byte hb)
  have hs : sbB f es = frB f (batB f es) := by unfold sbB; rw [if_pos hc]
  rw [← hs] at hn
  have hok : rbOk (A ++ (sbB f es ++ t)) (A.length : Nat) f = true := by
    unfold rbOk
    rw [hn, decB_back hc hf]
    simp
  refine ⟨hok, ?_, ?_⟩
  · unfold rbE; rw [if_pos hok, hn, decB_back hc hf]
  · unfold rbN; rw [if_pos hok, hn, sbB_len hc]; simp only; omega
theorem rb_end (A : List Nat) (i : Nat) : rbOk A (A.length : Nat) i = false := by
  unfold rbOk
  have : nextF A (A.length : Nat) = ⟨0, [], (A.length : Nat), 0⟩ := by unfold nextF; rw [if_pos rfl]
  rw [this]; simp
theorem chkB_lt {f : Nat} {es : List En} (h : chkB f es = 0) : f + es.length ≤ 18446744073709551615 := (chkB_zero h).2.2.1
theorem ehB_len {a b c : Nat} {z : Int} (h : wideB z = true) : (ehB a b c z).length = 48 := by unfold ehB; rw [if_pos h, frB_len, headB_len]
/-- A whole segment of one batch. -/
theorem seg_one {a b c : Nat} {z : Int} {es : List En} (ha : a < 18446744073709551616) (hb : b < 18446744073709551616) (hc : c < 18446744073709551616) (hz : wideB z = true) (hk : chkB c es = 0) (hy : byN es) :
    hdF (ehB a b c z ++ sbB c es) = some ⟨a, b, c, z.toNat⟩ ∧ sgB (ehB a b c z ++ sbB c es) = [(c, es)] ∧ sgU (ehB a b c z ++ sbB c es) = 48 + (sbB c es).length ∧ sgE (ehB a b c z ++ sbB c es) = 0 := by
  have h1 := hdF_laid ha hb hc hz (sbB c es)
  have hX : hdC (ehB a b c z ++ sbB c es) = ⟨a, b, c, z.toNat⟩ := by unfold hdC; rw [h1]; rfl
  obtain ⟨r1, r2, r3⟩ := rb_laid (ehB a b c z) [] hk hc hy
  rw [List.append_nil, ehB_len hz] at r1 r2 r3
  have hl : (ehB a b c z ++ sbB c es).length = (sbB c es).length + 47 + 1 := by rw [List.length_append, ehB_len hz]; omega
  have hl2 : ((48 + (sbB c es).length : Nat) : Int).toNat = (ehB a b c z ++ sbB c es).length := by rw [Int.toNat_natCast, hl]; omega
  have hr : rdL (ehB a b c z ++ sbB c es).length (ehB a b c z ++ sbB c es) 48 c = ([(c, es)], 48 + (sbB c es).length) := by
    have e := rdL_yes (k := (sbB c es).length + 47) r1
    rw [r2, r3] at e
    rw [hl, e, hl2, rdL_no (rb_end _ _), hl]
    simp; omega
  refine ⟨h1, ?_, ?_, ?_⟩
  · unfold sgB; rw [h1, hX]; simp only [Option.isSome_some, if_true]; rw [hr]
  · unfold sgU; rw [h1, hX]; simp only [Option.isSome_some, if_true]; rw [hr]
  · unfold sgE; rw [h1]; rfl
end Go.Proofs.YtckkalmhekfnhaaGreatDoor
namespace Go.Proofs.YtckkalmhekfnhaaGreatDoor
open Go.RowKit Go.BigFrame
set_option linter.unusedVariables false
set_option linter.unusedSimpArgs false

set_option maxRecDepth 100000 in
set_option maxHeartbeats 2000000 in
theorem twinEntries_any (v : Value) (es : List En) (w : World) (h : RdN w v es) (hl : es.length ≤ 1048576) :
    Calls Tryz.prog 39 #[v] w fun r w' => ∃ v', r = .returned v' ∧ NewN w.heap.size w' v' es ∧ Kept [] w w' := by
  obtain ⟨ao, len, cap, kv, vv, rfl, h1, h2, h3, h4, h5⟩ := h
  have H4 := hide h4
  have H5 := hide h5
  clear h4 h5
  subst h1
  go_enter Tryz.func39, Tryz.ntmps39
  go_wp2_with fail
  go_loopw [8, 3] (fun t12 t3 wr => ∃ (i : Nat) (ts : List (En × Value × Value)), i ≤ es.length ∧ t12 = .int .i64 i ∧ Hid (ts.map (·.1) = es.take i) ∧ Hid (OwnN [] w wr t3 ts)) (fun t _ _ => es.length - (intOf t).toNat)
  case atStart => exact ⟨0, [], Nat.zero_le _, rfl, hide (by simp), hide (OwnN.start (Kept.refl [] w))⟩
  case round =>
    obtain ⟨i, ts, hi, rfl, HTS, HO⟩ := hrel
    have HTL := hide (by have h9 := congrArg List.length (unhide HTS); simp only [List.length_map, List.length_take] at h9; omega : ts.length ≤ 1048576)
    by_cases hlt : i < es.length
    · have hlt' : (i : Int) < es.length := by omega
      obtain ⟨b, off, rfl, hcc⟩ := unhide H5 (by omega)
      have hr := hcc i hlt
      have q0 := (unhide HO).kept.cell (hr 0 _ rfl) (by simp)
      have q1 := (unhide HO).kept.cell (hr 1 _ rfl) (by simp)
      have q2 := (unhide HO).kept.cell (hr 2 _ rfl) (by simp)
      rw [Nat.add_zero] at q0
      have HE := hide ((unhide H4 i hlt).old (unhide HO).kept)
      have HSN := hide (by rw [List.take_succ_eq_append_getElem hlt] : es.take (i + 1) = es.take i ++ [es[i]])
      clear hcc hr
      generalize kv i = kvi at q1 HE
      generalize vv i = vvi at q2 HE
      generalize es[i] = e at q0 HE HSN
      obtain ⟨a8, m8, c8, rfl, _⟩ := id (unhide HE).key
      obtain ⟨a9, m9, c9, rfl, _⟩ := id (unhide HE).val
      have HSZ := hide (unhide HO).kept.size
      go_wp2_with fail
      have k1 := (Kept.refl [] wr).alloc (.cells #[.int .u8 (e.k : Int), .slice a8 m8 c8, .slice a9 m9 c9] 71)
      refine Calls.mono (twinEntry_any e _ _ _ ((unhide HE).old k1)) ?_
      rintro r w2 ⟨kv2, vv2, rfl, ok2, k2, n2⟩
      obtain ⟨a3, m3, c3, hu3, _⟩ := id ok2.key
      subst hu3
      obtain ⟨a4, m4, c4, hu4, _⟩ := id ok2.val
      subst hu4
      have HN2 := hide (fun y hy => by have h9 := n2 y hy; rw [show (wr.alloc (.cells #[.int .u8 (e.k : Int), .slice a8 m8 c8, .slice a9 m9 c9] 71)).heap.size = wr.heap.size + 1 from Array.size_push _] at h9; exact h9 : ∀ y, y ∈ blk (.slice a3 m3 c3) ∨ y ∈ blk (.slice a4 m4 c4) → wr.heap.size + 1 ≤ y)
      have HO2 := hide (((unhide HO).old (M := []) (k1.trans k2 (by simp)) (by simp)).old (M := []) ((Kept.refl [] w2).alloc (.cells #[.int .u8 (e.k : Int), .slice a3 m3 c3, .slice a4 m4 c4] 71)) (by simp))
      have HK2 := hide (ok2.old ((Kept.refl [] w2).alloc (.cells #[.int .u8 (e.k : Int), .slice a3 m3 c3, .slice a4 m4 c4] 71)))
      have HB2 := hide (unhide HO2).kept.size
      have HOL := hide (fun g hg => ((unhide HO).own.lt g hg).2 : ∀ g, u3.ownBlock = some g → g < wr.heap.size)
      clear k1 k2 n2 ok2
      simp only [enC]
      go_wp2_with (at_builtin; refine wpList_pushN rfl _ _ rfl rfl _ w.heap.size u3 ts e (.slice a3 m3 c3) (.slice a4 m4 c4) w2.heap.size (unhide HO2).own (heap_alloc_new _ _) rfl rfl (by have := unhide HTL; omega) (unhide HB2) rfl rfl ?_; intro g cap2 w5 HO5 HG5 HA5)
      refine ⟨⟨i + 1, ts ++ [(e, .slice a3 m3 c3, .slice a4 m4 c4)], by omega, by go_num, hide ?_, hide ?_⟩, ?_⟩
      · rw [List.map_append, unhide HTS, unhide HSN]; rfl
      · refine (unhide HO2).push (unhide HK2) (fun b' hb' => ?_) (unhide HO5) (unhide HG5) (unhide HA5)
        have h9 : wr.heap.size + 1 ≤ b' := by
          rcases hb' with hb' | hb'
          · exact unhide HN2 b' (Or.inl (mem_nblk hb').1)
          · exact unhide HN2 b' (Or.inr (mem_nblk hb').1)
        have h8 := unhide HSZ
        exact ⟨fun e9 => by have h7 := unhide HOL b' e9; omega, by omega⟩
      · simp [intOf]; omega
    · have hlt' : ¬ (i : Int) < es.length := by omega
      have hie : i = es.length := by omega
      subst hie
      rw [List.take_length] at HTS
      go_wp2
      go_ret
      exact ⟨_, rfl, ⟨[], w, ts, (unhide HTS).symm, unhide HO, Nat.le_refl _⟩, (unhide HO).kept⟩

set_option maxRecDepth 100000 in
set_option maxHeartbeats 1000000 in
theorem twinBatch_any (f : Nat) (v : Value) (es : List En) (w : World) (h : RdN w v es) (hl : es.length ≤ 1048576) :
    Calls Tryz.prog 18 #[.agg #[.int .u64 f, v]] w fun r w' => ∃ v', r = .returned (.agg #[.int .u64 f, v']) ∧ NewN w.heap.size w' v' es ∧ Kept [] w w' := by
  have H := hide h
  obtain ⟨a1, m1, c1, _, _, rfl, _⟩ := h
  have HG := hide (((Kept.refl [] (w.alloc (.cells #[.int .u64 (f : Int), .slice a1 m1 c1] 35))).alloc (.cells #[.int .u64 0, .slice none 0 0] 35)).heap (heap_alloc_new w (.cells #[.int .u64 (f : Int), .slice a1 m1 c1] 35)) (by simp))
  have HZ := hide (alloc_at w (.cells #[.int .u64 (f : Int), .slice a1 m1 c1] 35) (.cells #[.int .u64 0, .slice none 0 0] 35))
  have HK0 := hide (((Kept.refl [] w).alloc (.cells #[.int .u64 (f : Int), .slice a1 m1 c1] 35)).alloc (.cells #[.int .u64 0, .slice none 0 0] 35))
  have HSZ := hide (show ((w.alloc (.cells #[.int .u64 (f : Int), .slice a1 m1 c1] 35)).alloc (.cells #[.int .u64 0, .slice none 0 0] 35)).heap.size = w.heap.size + 2 by simp)
  go_enter Tryz.func18, Tryz.ntmps18
  go_wp2_with fail
  obtain ⟨W, hW⟩ : ∃ W, (w.alloc (.cells #[.int .u64 (f : Int), .slice a1 m1 c1] 35)).alloc (.cells #[.int .u64 0, .slice none 0 0] 35) = W := ⟨_, rfl⟩
  rw [hW] at HG HZ HK0 HSZ ⊢
  clear hW
  have x0 : W.cell? ⟨w.heap.size, 0, none⟩ = some (.int .u64 (f : Int)) := by rw [cell_of_row _ _ _ _ _ _ (unhide HG)]; rfl
  have x1 : W.cell? ⟨w.heap.size, 1, none⟩ = some (.slice a1 m1 c1) := by rw [cell_of_row _ _ _ _ _ _ (unhide HG)]; rfl
  have HX0 := hide x0
  have HX1 := hide x1
  have HHW := hide (((unhide H).old (unhide HK0)).old (Kept.refl [] W).drew)
  have hne : w.heap.size ≠ w.heap.size + 1 := by omega
  go_region_held3 (fun w' => w'.cell? ⟨w.heap.size, 0, none⟩ = some (.int .u64 (f : Int)) ∧ w'.cell? ⟨w.heap.size, 1, none⟩ = some (.slice a1 m1 c1)) (go_keep) (first
    | (go_at_call 39; refine (twinEntries_any _ es _ (by exact unhide HHW) hl).mono ?_; rintro e w3 ⟨v3, rfl, r3, k3⟩; obtain ⟨a3, m3, c3, _, _, hu3, _⟩ := id r3.rdN; subst hu3; have HR3 := hide (show NewN W.heap.size w3 (.slice a3 m3 c3) es from r3); have K3 := (Kept.refl [] W).drew.trans k3 (by simp); have HK3 := hide K3; have y0 := K3.cell (unhide HX0) (by simp); have y1 := K3.cell (unhide HX1) (by simp); have HZ3 := hide (K3.heap (unhide HZ) (by simp)); have t0 := cell_of_row _ _ 0 _ _ _ (unhide HZ3); have t1 := cell_of_row _ _ 1 _ _ _ (unhide HZ3); have f0 := frozen_of_row _ _ 0 _ _ (unhide HZ3); have f1 := frozen_of_row _ _ 1 _ _ (unhide HZ3); clear K3 k3 r3))
  all_goals go_wp2
  all_goals
    refine bodyPost_ret (v := .agg #[.int .u64 (f : Int), .slice a3 m3 c3]) ?_ rfl ⟨.slice a3 m3 c3, rfl, ?_, ?_⟩
    · exact results_cell_row rfl _ _ (w.heap.size + 1) _ #[.int .u64 (f : Int), .slice a3 m3 c3] (0, 0) _ rfl (by exact eput2_heap (unhide HZ3) _ _) Tryz.underlying35 rfl Tryz.size_batch
    · have h7 := unhide HSZ
      exact ((unhide HR3).kept (eput2_kept (Kept.refl [w.heap.size + 1] w3) (w.heap.size + 1) (Or.inl (by simp)) _ _) (by simp; omega)).weak (by omega)
    · exact eput2_kept ((unhide HK0).trans (unhide HK3) (by simp)) (w.heap.size + 1) (Or.inr (by omega)) _ _
end Go.Proofs.YtckkalmhekfnhaaGreatDoor
namespace Go.Proofs.YtckkalmhekfnhaaGreatDoor
open Go.RowKit Go.BigFrame
set_option linter.unusedVariables false
set_option linter.unusedSimpArgs false

/-- Batches with the numbers that go on from i. -/
def numS : Nat → List (List En) → List (Nat × List En)
  | _, [] => []
  | i, es :: r => (i, es) :: numS ((i + es.length) % 18446744073709551616) r
def okS : Nat → List (List En) → Bool
  | _, [] => true
  | i, es :: r => decide (chkB i es = 0) && okS ((i + es.length) % 18446744073709551616) r
def runS (ts : List (Nat × List En)) : List Nat := ts.flatMap fun t => sbB t.1 t.2
/-- The places behind them. -/
def atS : Nat → List (Nat × List En) → List Nat
  | n, [] => []
  | n, t :: r => (n + (sbB t.1 t.2).length) :: atS (n + (sbB t.1 t.2).length) r
theorem runS_app (a b : List (Nat × List En)) : runS (a ++ b) = runS a ++ runS b := by simp [runS]
theorem runS_one (t : Nat × List En) : runS [t] = sbB t.1 t.2 := by simp [runS]
theorem runS_cons (t : Nat × List En) (r : List (Nat × List En)) : runS (t :: r) = sbB t.1 t.2 ++ runS r := by simp [runS]
theorem atS_snoc : ∀ (n : Nat) (D : List (Nat × List En)) (t : Nat × List En), atS n (D ++ [t]) = atS n D ++ [n + (runS (D ++ [t])).length]
  | n, [], t => by simp [atS, runS]
  | n, d :: D, t => by
    rw [List.cons_append, atS, atS_snoc _ D t, runS_cons, atS, List.length_append]
    simp; omega
theorem atS_len : ∀ (n : Nat) (D : List (Nat × List En)), (atS n D).length = D.length
  | _, [] => rfl
  | n, d :: D => by rw [atS, List.length_cons, atS_len _ D, List.length_cons]
theorem Tryz.infoI : (Tryz.prog.info? 3).map (fun i => (i.zero, i.size, i.bytes)) = some (some (.int .i64 0), 1, 8) := by kernel_rfl
def intC (xs : List Nat) : List Value := xs.map fun (x : Nat) => .int .i64 (x : Int)
theorem owns_neB {w : World} {b1 b2 : Nat} {e1 e2 : TypeId} {s1 s2 n1 n2 : Nat} {v1 v2 : Value} {x1 x2 : List Value} (h1 : w.ownsRow b1 e1 s1 v1 n1 x1) (h2 : w.ownsRow b2 e2 s2 v2 n2 x2) (he : e1 ≠ e2) : ∀ b, v1.ownBlock = some b → v2.ownBlock ≠ some b := by
  intro b hb hb2
  rcases h1.2 with ⟨rfl, _⟩ | ⟨g, cap, cur, rfl, _, hg, _⟩
  · simp [Value.ownBlock] at hb
  · rcases h2.2 with ⟨rfl, _⟩ | ⟨g', cap', cur', rfl, _, hg', _⟩
    · simp [Value.ownBlock] at hb2
    · simp only [Value.ownBlock, Option.some.injEq] at hb hb2
      subst hb
      subst hb2
      rw [hg] at hg'
      simp at hg'
      first | exact he hg'.2 | exact he hg'.2.1 | exact he hg'.1
/-- Batches and places that are owned, each batch with memory of its own. -/
structure LaA (w0 w : World) (av tv : Value) (ts : List (Nat × Value × List En)) (xs : List Nat) : Prop where
  own : w.ownsRow w0.heap.size 35 2 av ts.length (cellsB ts)
  ints : w.ownsRow w0.heap.size 3 1 tv xs.length (intC xs)
  rd : ∀ t ∈ ts, ∃ B C, C ≤ w.heap.size ∧ w0.heap.size ≤ B ∧ (∀ b, av.ownBlock = some b ∨ tv.ownBlock = some b → b < B ∨ C ≤ b) ∧ ∀ M w', Kept M w w' → (∀ x ∈ M, x < B ∨ C ≤ x) → RdN w' t.2.1 t.2.2
  sz : w0.heap.size ≤ w.heap.size
theorem LaA.pass {w0 w w' : World} {av tv : Value} {ts : List (Nat × Value × List En)} {xs : List Nat} (h : LaA w0 w av tv ts xs) (k : Kept [] w w') : LaA w0 w' av tv ts xs := by
  refine ⟨k.owns h.own (by simp), k.owns h.ints (by simp), fun t ht => ?_, Nat.le_trans h.sz k.size⟩
  obtain ⟨B, C, h1, h2, h3, h4⟩ := h.rd t ht
  exact ⟨B, C, Nat.le_trans h1 k.size, h2, h3, fun N w2 kN hN => h4 N w2 ((k.mono (M := N) (by simp)).trans kN (fun x hx => Or.inl hx)) hN⟩
theorem LaA.int {w0 w W : World} {av tv : Value} {ts : List (Nat × Value × List En)} {xs : List Nat} (h : LaA w0 w av tv ts xs) {x g n cap : Nat} (hn : n = xs.length + 1)
    (o : W.ownsRow w0.heap.size 3 1 (.slice (some ⟨g, 0, none⟩) n cap) n (intC xs ++ [.int .i64 (x : Int)])) (gr : w.grownBy W tv.ownBlock) (hg : tv.ownBlock = some g ∨ g = w.heap.size) :
    LaA w0 W av (.slice (some ⟨g, 0, none⟩) n cap) ts (xs ++ [x]) := by
  have kW : Kept tv.ownBlock.toList w W := ((Kept.refl _ w)).grown gr (by intro k hk; left; simp [hk])
  refine ⟨kW.owns h.own (fun b hb hm => owns_neB h.own h.ints (by decide) b hb (by simpa using hm)), by rw [List.length_append, List.length_singleton, ← hn]; simpa [intC] using o, fun t ht => ?_, Nat.le_trans h.sz kW.size⟩
  obtain ⟨B, C, h1, h2, h3, h4⟩ := h.rd t ht
  refine ⟨B, C, Nat.le_trans h1 kW.size, h2, fun b hb => ?_, fun N w2 kN hN => h4 (tv.ownBlock.toList ++ N) w2 ((kW.mono (M := tv.ownBlock.toList ++ N) (fun x hx => List.mem_append_left _ hx)).trans kN (fun x hx => Or.inl (by simp [hx]))) (fun x hx => ?_)⟩
  · rcases hb with hb | hb
    · exact h3 b (Or.inl hb)
    · simp only [Value.ownBlock, Option.some.injEq] at hb
      subst hb
      rcases hg with hg | hg
      · exact h3 _ (Or.inr hg)
      · omega
  · rcases List.mem_append.1 hx with hx | hx
    · exact h3 x (Or.inr (by simpa using hx))
    · exact hN x hx
theorem LaA.bat {w0 w W : World} {av tv : Value} {ts : List (Nat × Value × List En)} {xs : List Nat} (h : LaA w0 w av tv ts xs) {pl : Nat} {y : Value} {es : List En} {g n cap : Nat} (hn : n = ts.length + 1)
    (hy : ∃ B C, C ≤ w.heap.size ∧ w0.heap.size ≤ B ∧ (∀ b, av.ownBlock = some b ∨ tv.ownBlock = some b → b < B ∨ C ≤ b) ∧ ∀ M w', Kept M w w' → (∀ x ∈ M, x < B ∨ C ≤ x) → RdN w' y es)
    (o : W.ownsRow w0.heap.size 35 2 (.slice (some ⟨g, 0, none⟩) n cap) n (cellsB ts ++ [.int .u64 (pl : Int), y])) (gr : w.grownBy W av.ownBlock) (hg : av.ownBlock = some g ∨ g = w.heap.size) :
    LaA w0 W (.slice (some ⟨g, 0, none⟩) n cap) tv (ts ++ [(pl, y, es)]) xs := by
  have kW : Kept av.ownBlock.toList w W := ((Kept.refl _ w)).grown gr (by intro k hk; left; simp [hk])
  have key : ∀ t ∈ ts ++ [(pl, y, es)], ∃ B C, C ≤ w.heap.size ∧ w0.heap.size ≤ B ∧ (∀ b, av.ownBlock = some b ∨ tv.ownBlock = some b → b < B ∨ C ≤ b) ∧ ∀ M w', Kept M w w' → (∀ x ∈ M, x < B ∨ C ≤ x) → RdN w' t.2.1 t.2.2 := by
    intro t ht
    rcases List.mem_append.1 ht with ht | ht
    · exact h.rd t ht
    · rw [List.mem_singleton] at ht; subst ht; exact hy
  refine ⟨by rw [cellsB_app, List.length_append, List.length_singleton, ← hn]; exact o, kW.owns h.ints (fun b hb hm => owns_neB h.ints h.own (by decide) b hb (by simpa using hm)), fun t ht => ?_, Nat.le_trans h.sz kW.size⟩
  obtain ⟨B, C, h1, h2, h3, h4⟩ := key t ht
  refine ⟨B, C, Nat.le_trans h1 kW.size, h2, fun b hb => ?_, fun N w2 kN hN => h4 (av.ownBlock.toList ++ N) w2 ((kW.mono (M := av.ownBlock.toList ++ N) (fun x hx => List.mem_append_left _ hx)).trans kN (fun x hx => Or.inl (by simp [hx]))) (fun x hx => ?_)⟩
  · rcases hb with hb | hb
    · simp only [Value.ownBlock, Option.some.injEq] at hb
      subst hb
      rcases hg with hg | hg
      · exact h3 _ (Or.inl hg)
      · omega
    · exact h3 b (Or.inr hb)
  · rcases List.mem_append.1 hx with hx | hx
    · exact h3 x (Or.inl (by simpa using hx))
    · exact hN x hx
theorem LaA.rdB {w0 w : World} {av tv : Value} {ts : List (Nat × Value × List En)} {xs : List Nat} (h : LaA w0 w av tv ts xs) : RdB w av (ts.map fun t => (t.1, t.2.2)) :=
  OwnB.rdB (w0 := w0) ⟨h.own, fun t ht => by obtain ⟨B, C, h1, h2, h3, h4⟩ := h.rd t ht; exact ⟨B, C, h1, h2, fun b hb => h3 b (Or.inl hb), h4⟩, h.sz⟩
/-- The slice value v reads as these numbers. -/
def RdJ (w : World) (v : Value) (xs : List Nat) : Prop := ∃ (b c : Nat), v = .slice (some ⟨b, 0, none⟩) xs.length c ∧ xs.length ≤ c ∧ ∀ i (h : i < xs.length), w.cell? ⟨b, i, none⟩ = some (.int .i64 (xs[i] : Int))
theorem LaA.rdJ {w0 w : World} {av tv : Value} {ts : List (Nat × Value × List En)} {xs : List Nat} (h : LaA w0 w av tv ts xs) (hp : 0 < xs.length) : RdJ w tv xs := by
  rcases h.ints.2 with ⟨rfl, h0⟩ | ⟨g, cap, cur, rfl, _, hg, hc, hm', hs, ht⟩
  · omega
  · refine ⟨g, cap, rfl, hc, fun i hi => ?_⟩
    have c1 := h.ints.cells (g := g) rfl i (.int .i64 (xs[i] : Int)) (by simp [intC, hi])
    rw [Addr.add_mid, Nat.zero_add] at c1
    exact c1
theorem pushI (w : World) (base : Nat) (v : Value) (xs : List Nat) (x : Nat) (H : Nat) (h : w.ownsRow base 3 1 v xs.length (intC xs)) (hnew : w.heap[H]? = some (.cells #[.int .i64 (x : Int)] 3 (0, 0))) (hl : xs.length + 1 ≤ 1000000000000) (hb : base ≤ w.heap.size) :
    ∃ g cap w1, (Builtin.append_ #[61, 61] 61 #[v, .slice (some ⟨H, 0, none⟩) 1 1]).run Tryz.prog w = .ok (.slice (some ⟨g, 0, none⟩) (xs.length + 1) cap) w1 ∧
      w1.ownsRow base 3 1 (.slice (some ⟨g, 0, none⟩) (xs.length + 1) cap) (xs.length + 1) (intC xs ++ [.int .i64 (x : Int)]) ∧ w.grownBy w1 v.ownBlock ∧ (v.ownBlock = some g ∨ g = w.heap.size) := by
  obtain ⟨i0, hi, hz0, hz1, hz2⟩ := info_parts Tryz.infoI
  obtain ⟨g, cap, w1, hr, hown, hgrow, hat, hlt⟩ := run_append_lies (P := Tryz.prog) w 61 61 base 3 i0 (.int .i64 0) 1 8 Tryz.underlying61 hi hz0 hz1 hz2 rfl (by decide)
    v xs.length (intC xs) h ⟨H, 0, none⟩ 1 1 [.int .i64 (x : Int)] rfl (World.news_of_block hnew) (by intro u hu; simp at hu; subst hu; rfl) (by decide) (by unfold maxLen; omega) (by omega) hb _ rfl
  exact ⟨g, cap, w1, hr, hown, hgrow, hat⟩
theorem wpList_pushI {ops : Array Oper} {rest : List Oper} {o : Oper} {a : Act} {Q : Exit → Act → World → Prop} (hgd : o.guard = none) (s x : Operand)
    (ho : o.op = .call { callee := .builtin .append, args := #[s, x], argTypes := #[61, 61] }) (hty : o.type = 61)
    (w : World) (base : Nat) (v : Value) (xs : List Nat) (y : Nat) (H : Nat) (h : w.ownsRow base 3 1 v xs.length (intC xs)) (hnew : w.heap[H]? = some (.cells #[.int .i64 (y : Int)] 3 (0, 0))) (hl : xs.length + 1 ≤ 1000000000000) (hb : base ≤ w.heap.size)
    (hs : a.eval s = v) (hx : a.eval x = .slice (some ⟨H, 0, none⟩) 1 1)
    (hK : ∀ g cap w1, Hid (w1.ownsRow base 3 1 (.slice (some ⟨g, 0, none⟩) (xs.length + 1) cap) (xs.length + 1) (intC xs ++ [.int .i64 (y : Int)])) → Hid (w.grownBy w1 v.ownBlock) → Hid (v.ownBlock = some g ∨ g = w.heap.size) →
      wpList Tryz.prog ops Q rest (a.put o.dst (.slice (some ⟨g, 0, none⟩) (xs.length + 1) cap)) w1) :
    wpList Tryz.prog ops Q (o :: rest) a w := by
  obtain ⟨g, cap, w1, hrun, h2, h3, h4⟩ := pushI w base v xs y H h hnew hl hb
  refine wpList_plain hgd fun K hK' => ?_
  unfold Oper.wp execOp
  simp only [ho, hty, resolve, invoke, builtin, Sem.run_bind, Sem.run_pure, Result.andThen_ok, List.map_toArray, List.map_cons, List.map_nil, hs, hx, hrun]
  exact hK' _ _ (hK g cap w1 h2 h3 h4)
end Go.Proofs.YtckkalmhekfnhaaGreatDoor
namespace Go.Proofs.YtckkalmhekfnhaaGreatDoor
open Go.RowKit Go.BigFrame
set_option linter.unusedVariables false
set_option linter.unusedSimpArgs false

def ldOk (c : Nat) (z : Int) (L : List (List En)) : Bool := wideB z && okS c L
theorem runS_snoc_len {D : List (Nat × List En)} {i : Nat} {es : List En} {n : Nat} (h : (runS D).length ≤ 30018 * n) (hc : chkB i es = 0) (hi : i < 18446744073709551616) : (runS (D ++ [(i, es)])).length ≤ 30018 * (n + 1) := by
  have := batB_lenS hc hi
  rw [runS_app, List.length_append, runS_one, sbB_len hc]
  omega

set_option maxRecDepth 100000 in
set_option maxHeartbeats 4000000 in
theorem laidS_any (a b c : Nat) (z : Int) (v : Value) (bs : List (Nat × List En)) (w : World) (ha : a < 18446744073709551616) (hc : c < 18446744073709551616) (hz : -9223372036854775808 ≤ z ∧ z ≤ 9223372036854775807) (h : RdB w v bs) (hl : bs.length ≤ 1048576) (hes : ∀ t ∈ bs, t.2.length ≤ 1048576) :
    Calls Tryz.prog 25 #[.agg #[.int .u64 a, .int .u64 b, .int .u64 c, .int .i64 z], v] w fun e w' => ∃ pv av tv, e = .returned (.tuple #[pv, av, tv, .bool (ldOk c z (bs.map (·.2)))]) ∧ (ldOk c z (bs.map (·.2)) = true → Rd w' pv (ehB a b c z ++ runS (numS c (bs.map (·.2)))) ∧ RdB w' av (numS c (bs.map (·.2))) ∧ RdJ w' tv (48 :: atS 48 (numS c (bs.map (·.2))))) ∧ Kept [] w w' := by
  obtain ⟨ao, cap, S, rfl, hbs, hcap1, hcap2, hrd, hcl⟩ := h
  have hSl : bs.length = S.length := by rw [hbs]; simp
  have HRD := hide hrd
  have HCL := hide hcl
  have HBS := hide hbs
  have HES := hide hes
  rw [hSl] at hl
  clear hbs hrd hcl hSl hes
  obtain ⟨L, hL⟩ : ∃ L, bs.map (·.2) = L := ⟨_, rfl⟩
  have HLL := hide (by rw [← hL, unhide HBS]; simp : L = S.map (·.2.2))
  rw [hL]
  clear hL
  have HB0 := hide (heap_alloc_new w (.cells #[.int .u64 (a : Int), .int .u64 (b : Int), .int .u64 (c : Int), .int .i64 z] 32))
  have HK0 := hide ((Kept.refl [] w).alloc (.cells #[.int .u64 (a : Int), .int .u64 (b : Int), .int .u64 (c : Int), .int .i64 z] 32))
  obtain ⟨W1, hW1⟩ : ∃ W, w.alloc (.cells #[.int .u64 (a : Int), .int .u64 (b : Int), .int .u64 (c : Int), .int .i64 z] 32) = W := ⟨_, rfl⟩
  rw [hW1] at HB0 HK0
  have HW1 := hide hW1
  clear hW1
  obtain ⟨d0, d1, d2, d3⟩ := hcells (unhide HB0)
  rw [← unhide HW1] at d0 d1 d2 d3
  obtain ⟨OK, hOK⟩ : ∃ OK, ldOk c z L = OK := ⟨_, rfl⟩
  have HOK := hide hOK
  rw [hOK]
  clear hOK
  go_enter Tryz.func25, Tryz.ntmps25
  go_wp2_with fail
  rw [unhide HW1]
  clear d0 d1 d2 d3
  refine Calls.mono (encodeHead_any a b c z W1 ha hz) ?_
  rintro e w2 ⟨v2, rfl, n2, k2⟩
  obtain ⟨a2, m2, c2, rfl, hm2, _⟩ := id n2.1
  have HR2 := hide n2.1
  have HH2 := hide (k2.heap (unhide HB0) (by simp))
  have HK2 := hide ((unhide HK0).trans k2 (by simp))
  clear n2 k2 HB0 HK0
  by_cases hw : wideB z = true
  · rw [show ehE z = 0 by simp [ehE, hw]]
    rw [ehB_len hw] at hm2
    subst hm2
    have HO := hide (by rw [← unhide HOK]; unfold ldOk; rw [hw, Bool.true_and] : OK = okS c L)
    obtain ⟨d0, d1, d2, d3⟩ := hcells (((Kept.refl [] w2).alloc (.cells #[.int .i64 48] 3)).heap (unhide HH2) (by simp))
    go_wp2_with fail
    clear d0 d1 d2 d3
    go_loopw [8, 10, 11, 12, 32] (fun t8 t10 t11 t12 t32 wr => ∃ (k nxt : Nat) (ts : List (Nat × Value × List En)), t32 = .int .i64 (k : Int) ∧ k ≤ S.length ∧ t12 = .int .u64 (nxt : Int) ∧ Hid (nxt < 18446744073709551616 ∧ ts.length = k) ∧ Hid (numS c L = ts.map (fun t => (t.1, t.2.2)) ++ numS nxt (L.drop k)) ∧ Hid (OK = okS nxt (L.drop k)) ∧ Hid (Rd wr t8 (ehB a b c z ++ runS (ts.map fun t => (t.1, t.2.2)))) ∧ Hid (LaA w2 wr t10 t11 ts (48 :: atS 48 (ts.map fun t => (t.1, t.2.2)))) ∧ Hid (Kept [] w wr) ∧ Hid ((runS (ts.map fun t => (t.1, t.2.2))).length ≤ 30018 * k)) (fun _ _ _ _ t _ => S.length - (intOf t).toNat)
    case atStart =>
      refine ⟨0, c, [], rfl, Nat.zero_le _, rfl, hide ⟨hc, rfl⟩, hide (by simp), HO, hide ?_, hide ?_, hide ((unhide HK2).alloc _), hide (by simp [runS])⟩
      · simp only [List.map_nil, runS, List.flatMap_nil, List.append_nil]
        exact (unhide HR2).old ((Kept.refl [] w2).alloc _) (by simp)
      · exact ⟨World.ownsRow_nil _ _ _ _, ⟨rfl, .inr ⟨w2.heap.size, 1, #[.int .i64 48], rfl, Nat.le_refl _, heap_alloc_new _ _, Nat.le_refl _, by decide, rfl, rfl⟩⟩, by simp, by simp⟩
    case round =>
      obtain ⟨k, nxt, ts, rfl, hk, rfl, HN, HD, HOk, HP, HA, HK, HLn⟩ := hrel
      obtain ⟨a8, n8, c8, h8, hl8, _⟩ := id (unhide HP)
      subst h8
      by_cases hkl : k < S.length
      · obtain ⟨b0, off, rfl, hcell⟩ := unhide HCL (by omega)
        obtain ⟨c0, c1⟩ := hcell k hkl
        have HRN := hide (unhide HRD S[k] (List.getElem_mem _))
        have HEL := hide (unhide HES (S[k].1, S[k].2.2) (by rw [unhide HBS]; exact List.mem_map.2 ⟨S[k], List.getElem_mem _, rfl⟩))
        have HDR := hide (by rw [unhide HLL, List.drop_eq_getElem_cons (by simpa using hkl)]; simp : L.drop k = S[k].2.2 :: L.drop (k + 1))
        obtain ⟨f, y, es, hSk⟩ : ∃ f y es, S[k] = (f, y, es) := ⟨_, _, _, rfl⟩
        rw [hSk] at c0 c1 HRN HEL HDR
        simp only at c0 c1 HRN HEL HDR
        clear hSk hcell
        obtain ⟨ay, ny, cy, _, _, hyy, _⟩ := id (unhide HRN)
        subst hyy
        have e0 := (unhide HK).cell c0 (by simp)
        have e1 := (unhide HK).cell c1 (by simp)
        clear c0 c1
        have hlt : (k : Int) < (S.length : Int) := by omega
        have HA1 := hide ((unhide HA).pass ((Kept.refl [] wr).alloc (.cells #[.int .u64 (f : Int), .slice ay ny cy] 35)))
        have HP1 := hide ((unhide HP).old ((Kept.refl [] wr).alloc (.cells #[.int .u64 (f : Int), .slice ay ny cy] 35)) (by simp))
        have HK1 := hide ((unhide HK).alloc (.cells #[.int .u64 (f : Int), .slice ay ny cy] 35))
        have HN1 := hide ((unhide HRN).old (unhide HK1))
        obtain ⟨g0, g1⟩ := bcells (heap_alloc_new wr (.cells #[.int .u64 (f : Int), .slice ay ny cy] 35))
        go_wp2_with fail
        obtain ⟨V1, hV1⟩ : ∃ W, wr.alloc (.cells #[.int .u64 (f : Int), .slice ay ny cy] 35) = W := ⟨_, rfl⟩
        rw [hV1] at HA1 HP1 HK1 HN1 ⊢
        clear hV1 e0 e1 g0 g1
        refine Calls.mono (twinEntries_any _ es V1 (unhide HN1) (unhide HEL)) ?_
        rintro e w3 ⟨v3, rfl, n3, k3⟩
        obtain ⟨a3, n3', c3, _, _, hv3, hl3, _⟩ := id n3.rdN
        subst hv3
        have HL3 := hide hl3
        have HN3 := hide n3
        have HA3 := hide ((unhide HA1).pass k3)
        have HP3 := hide ((unhide HP1).old k3 (by simp))
        have HK3 := hide ((unhide HK1).trans k3 (by simp))
        have HLT := hide (fun b (hb : u10.ownBlock = some b ∨ u11.ownBlock = some b) => by
          rcases hb with hb | hb
          · exact ((unhide HA1).own.lt b hb).2
          · exact ((unhide HA1).ints.lt b hb).2 : ∀ b, u10.ownBlock = some b ∨ u11.ownBlock = some b → b < V1.heap.size)
        have HV13 := hide k3.size
        have HW2 := hide ((unhide HA1).sz)
        clear n3 k3 hl3
        have HC4 := hide (heap_alloc_new w3 (.cells #[.int .u64 (nxt : Int), .slice a3 n3' c3] 35))
        have KC := hide ((Kept.refl [] w3).alloc (.cells #[.int .u64 (nxt : Int), .slice a3 n3' c3] 35))
        obtain ⟨V4, hV4⟩ : ∃ W, w3.alloc (.cells #[.int .u64 (nxt : Int), .slice a3 n3' c3] 35) = W := ⟨_, rfl⟩
        rw [hV4] at HC4 KC
        have HV4 := hide hV4
        clear hV4
        obtain ⟨g0, g1⟩ := bcells (unhide HC4)
        rw [← unhide HV4] at g0 g1
        have hnx := (unhide HN).1
        go_wp2_with fail
        rw [unhide HV4]
        clear g0 g1
        refine Calls.mono (segBatch_any nxt _ es V4 hnx ((unhide HN3).rdN.old (unhide KC))) ?_
        rintro e w5 ⟨v5, rfl, n5, k5⟩
        obtain ⟨a5, n5', c5, rfl, hl5, _⟩ := id n5.1
        have HQ5 := hide n5.1
        have HK35 := hide ((unhide KC).trans k5 (by simp))
        clear n5 hl5
        have HC5 := hide (k5.heap (unhide HC4) (by simp))
        clear k5
        by_cases hck : chkB nxt es = 0
        · rw [hck]
          have HCK := hide hck
          clear hck
          have HBY := hide (by have h9 := unhide HLn; have h10 := (unhide HN).2; rw [List.length_append, ehB_len hw]; omega : (ehB a b c z ++ runS (ts.map fun t => (t.1, t.2.2))).length ≤ 48 + 30018 * S.length)
          have HSL := hide (by rw [sbB_len (unhide HCK)]; have := batB_lenS (unhide HCK) hnx; omega : (sbB nxt es).length ≤ 30018)
          go_wp2_with fail
          refine Calls.mono (join_any _ _ _ (sbB nxt es) w5 ((unhide HP3).old (unhide HK35) (by simp)) (unhide HQ5) (by have := unhide HBY; have := unhide HSL; omega)) ?_
          rintro e w6 ⟨v6, rfl, r6, k6, b6⟩
          obtain ⟨a6, n6, c6, rfl, hl6, _⟩ := id r6
          have HR6 := hide r6
          have HB6 := hide b6
          have HS56 := hide (unhide HK35).size
          have K36 := (unhide HK35).trans k6 (by simp)
          have HA6 := hide ((unhide HA3).pass K36)
          have HK6 := hide ((unhide HK3).trans K36 (by simp))
          have HC6 := hide (k6.heap (unhide HC5) (by simp))
          have HT6 := hide (And.intro K36.size (fun M w' (kk : Kept M w6 w') (hM : ∀ x ∈ M, x < V1.heap.size ∨ w3.heap.size ≤ x) => (unhide HN3).stay (M := M) ((K36.mono (M := M) (by simp)).trans kk (fun x hx => Or.inl hx)) hM) : w3.heap.size ≤ w6.heap.size ∧ ∀ M w', Kept M w6 w' → (∀ x ∈ M, x < V1.heap.size ∨ w3.heap.size ≤ x) → RdN w' (.slice a3 n3' c3) es)
          have HZ6 := hide (k6.size)
          have HL6 := hide hl6
          clear r6 k6 K36 hl6 b6 HC5 HC4 KC HV4 HK35 HP3
          have KA := hide ((Kept.refl [] w6).alloc (.cells #[.int .i64 (n6 : Int)] 3))
          have HA7 := hide ((unhide HA6).pass (unhide KA))
          have HNI := hide (heap_alloc_new w6 (.cells #[.int .i64 (n6 : Int)] 3))
          have HC7 := hide ((unhide KA).heap (unhide HC6) (by simp))
          have HK7 := hide ((unhide HK6).alloc (.cells #[.int .i64 (n6 : Int)] 3))
          have HR7 := hide ((unhide HR6).old (unhide KA) (by simp))
          obtain ⟨X, hX⟩ : ∃ X, (48 :: atS 48 (ts.map fun t => (t.1, t.2.2))) = X := ⟨_, rfl⟩
          have HXL := hide (by rw [← hX, List.length_cons, atS_len, List.length_map, (unhide HN).2] : X.length = k + 1)
          have HX := hide hX
          rw [hX] at HA7
          clear hX
          go_upto_region 16 with (at_builtin; refine wpList_pushI rfl (.tmp 51) (.tmp 54) rfl rfl _ w2.heap.size u11 X n6 w6.heap.size (unhide HA7).ints (unhide HNI) (by rw [unhide HXL]; omega) (unhide HA7).sz rfl rfl ?_; intro gi ci w8 HO8 HG8 HI8)
          have HS67 := hide (by simp : (w6.alloc (.cells #[.int .i64 (n6 : Int)] 3)).heap.size = w6.heap.size + 1)
          have K8 := (Kept.refl (u11.ownBlock.toList) _).grown (unhide HG8) (by intro k hk; left; simp [hk])
          have HA8 := hide ((unhide HA7).int (x := n6) rfl (unhide HO8) (unhide HG8) (unhide HI8))
          have HR8 := hide ((unhide HR7).kept K8 (fun x hx hm => by have h1 := unhide HB6 x hx; have h2 := unhide HLT x (Or.inr (by simpa using hm)); have h3 := unhide HV13; have h4 := unhide HS56; omega))
          have HC8 := hide (K8.heap (unhide HC7) (by intro hm; have h2 := unhide HLT _ (Or.inr (by simpa using hm)); have h3 := unhide HV13; omega))
          have HK8 := hide ((unhide HK7).grown (unhide HG8) (fun k hk => Or.inr (by have h1 := ((unhide HA7).ints.lt k hk).1; have h2 := (unhide HK2).size; omega)))
          have HT8 := hide (fun M w' (kk : Kept M w8 w') (hM : ∀ x ∈ M, x < V1.heap.size ∨ w3.heap.size ≤ x) => (unhide HT6).2 (u11.ownBlock.toList ++ M) w' ((((unhide KA).mono (M := u11.ownBlock.toList ++ M) (by simp)).trans (K8.mono (M := u11.ownBlock.toList ++ M) (fun x hx => List.mem_append_left _ hx)) (fun x hx => Or.inl hx)).trans kk (fun x hx => Or.inl (by simp [hx]))) (fun x hx => by
            rcases List.mem_append.1 hx with hx | hx
            · exact Or.inl (unhide HLT x (Or.inr (by simpa using hx)))
            · exact hM x hx) : ∀ M w', Kept M w8 w' → (∀ x ∈ M, x < V1.heap.size ∨ w3.heap.size ≤ x) → RdN w' (.slice a3 n3' c3) es)
          have HZ8 := hide (by have := K8.size; have := unhide HS67; have := (unhide HT6).1; omega : w3.heap.size ≤ w8.heap.size)
          have HGI := hide (by
            rcases unhide HI8 with h9 | h9
            · exact Or.inl (unhide HLT gi (Or.inr h9))
            · right; have := unhide HS67; have := (unhide HT6).1; omega : gi < V1.heap.size ∨ w3.heap.size ≤ gi)
          clear K8 HO8 HG8 HI8
          have KB := hide ((Kept.refl [] w8).alloc (.cells #[.int .u64 (nxt : Int), .slice a3 n3' c3] 35))
          have HNB := hide (heap_alloc_new w8 (.cells #[.int .u64 (nxt : Int), .slice a3 n3' c3] 35))
          have HA9 := hide ((unhide HA8).pass (unhide KB))
          have HC9 := hide ((unhide KB).heap (unhide HC8) (by simp))
          have HR9 := hide ((unhide HR8).old (unhide KB) (by simp))
          have HK9 := hide ((unhide HK8).alloc (.cells #[.int .u64 (nxt : Int), .slice a3 n3' c3] 35))
          obtain ⟨g0, g1⟩ := bcells (unhide HC8)
          go_upto_region 17 with (at_builtin; refine wpList_pushB rfl (.tmp 56) (.tmp 58) rfl rfl _ w2.heap.size u10 ts nxt (.slice a3 n3' c3) w8.heap.size (unhide HA9).own (unhide HNB) rfl (by rw [(unhide HN).2]; omega) (unhide HA9).sz rfl rfl ?_; intro gb cb w10 HO10 HG10 HI10)
          clear g0 g1
          have K10 := (Kept.refl (u10.ownBlock.toList) _).grown (unhide HG10) (by intro k hk; left; simp [hk])
          have HA10 := hide ((unhide HA9).bat rfl ⟨V1.heap.size, w3.heap.size, Nat.le_trans (unhide HZ8) (unhide KB).size, unhide HW2, (fun b hb => by
            rcases hb with hb | hb
            · exact Or.inl (unhide HLT b (Or.inl hb))
            · simp only [Value.ownBlock, Option.some.injEq] at hb
              subst hb
              exact unhide HGI), fun M w' kk hM => unhide HT8 M w' (((unhide KB).mono (M := M) (by simp)).trans kk (fun x hx => Or.inl hx)) hM⟩ (unhide HO10) (unhide HG10) (unhide HI10))
          have HR10 := hide ((unhide HR9).kept K10 (fun x hx hm => by have h1 := unhide HB6 x hx; have h2 := unhide HLT x (Or.inl (by simpa using hm)); have h3 := unhide HV13; have h4 := unhide HS56; omega))
          have HC10 := hide (K10.heap (unhide HC9) (by intro hm; have h2 := unhide HLT _ (Or.inl (by simpa using hm)); have h3 := unhide HV13; omega))
          have HK10 := hide ((unhide HK9).grown (unhide HG10) (fun k hk => Or.inr (by have h1 := ((unhide HA9).own.lt k hk).1; have h2 := (unhide HK2).size; omega)))
          clear K10 HO10 HG10 HI10
          obtain ⟨g0, g1⟩ := bcells (unhide HC10)
          go_wp2_with fail
          go_roundw
          case rel =>
            refine ⟨k + 1, (nxt + es.length) % 18446744073709551616, ts ++ [(nxt, .slice a3 n3' c3, es)], by simp, by omega, ?_, hide ⟨by omega, by rw [List.length_append, (unhide HN).2]; rfl⟩, hide ?_, hide ?_, hide ?_, hide ?_, HK10, hide ?_⟩
            · have h9 := unhide HL3
              rw [h9, IntKind.wrap_u64]
              simp
            · rw [unhide HD, unhide HDR, numS]
              simp
            · rw [unhide HOk, unhide HDR, okS]
              simp [unhide HCK]
            · have h9 := unhide HR10
              rw [List.append_assoc] at h9
              rw [List.map_append, runS_app]
              simpa [runS_one] using h9
            · have hn6 : n6 = 48 + (runS ((ts.map fun t => (t.1, t.2.2)) ++ [(nxt, es)])).length := by
                rw [← unhide HL6, List.length_append, List.length_append, ehB_len hw, runS_app, List.length_append, runS_one]
                simp only
                omega
              have hxx : 48 :: atS 48 ((ts ++ [(nxt, Value.slice a3 n3' c3, es)]).map fun t => (t.1, t.2.2)) = X ++ [n6] := by
                rw [List.map_append, List.map_singleton, atS_snoc, ← unhide HX, hn6]
                rfl
              rw [hxx]
              exact unhide HA10
            · rw [List.map_append]
              exact runS_snoc_len (unhide HLn) (unhide HCK) hnx
          case measure => simp [intOf]; omega
        · have hck' : ((chkB nxt es : Int) != 0) = true := by rw [bne_iff_ne]; omega
          have HO2 := hide (by rw [unhide HOk, unhide HDR, okS]; simp [hck] : OK = false)
          go_wp2
          refine bodyPost_ret (v := .tuple #[.slice none 0 0, .slice none 0 0, .slice none 0 0, .bool false]) ?_ rfl ⟨.slice none 0 0, .slice none 0 0, .slice none 0 0, by rw [unhide HO2], (by intro h; exact absurd (h.symm.trans (unhide HO2)) (by decide)), (unhide HK3).trans (unhide HK35) (by simp)⟩
          simp [results, Tryz.func25]
      · have hlt : ¬ (k : Int) < (S.length : Int) := by omega
        have hke : k = S.length := by omega
        have HKE := hide (by rw [List.drop_eq_nil_of_le]; rw [unhide HLL, List.length_map]; omega : L.drop k = [])
        have HTT := hide (by rw [unhide HOk, unhide HKE]; rfl : OK = true)
        have HDD := hide (by rw [unhide HD, unhide HKE]; simp [numS] : numS c L = ts.map fun t => (t.1, t.2.2))
        clear hke hkl
        go_wp2
        refine bodyPost_ret (v := .tuple #[.slice a8 n8 c8, u10, u11, .bool true]) ?_ rfl ⟨.slice a8 n8 c8, u10, u11, by rw [unhide HTT], fun _ => ⟨by rw [unhide HDD]; exact unhide HP, by rw [unhide HDD]; exact (unhide HA).rdB, by rw [unhide HDD]; exact (unhide HA).rdJ (by simp)⟩, unhide HK⟩
        simp [results, Tryz.func25]
  · have hw' : wideB z = false := by simpa using hw
    rw [show ehE z = 1 by simp [ehE, hw']]
    have HO := hide (by rw [← unhide HOK]; unfold ldOk; rw [hw', Bool.false_and] : OK = false)
    go_wp2
    refine bodyPost_ret (v := .tuple #[.slice none 0 0, .slice none 0 0, .slice none 0 0, .bool false]) ?_ rfl ⟨.slice none 0 0, .slice none 0 0, .slice none 0 0, by rw [unhide HO], (by intro h; exact absurd (h.symm.trans (unhide HO)) (by decide)), unhide HK2⟩
    simp [results, Tryz.func25]
end Go.Proofs.YtckkalmhekfnhaaGreatDoor
