import Derived.Test.YtjbmafjnbncbpaaFCase
namespace Go.Proofs.Ytjbmafjnbncbpaa
open Go.RowKit Go.BigFrame
set_option linter.unusedVariables false
set_option linter.unusedSimpArgs false

/-- The frames from the place n on, and where they end. -/
def scanL : Nat → List Nat → Nat → List (Nat × List Nat) × Nat
  | 0, _, n => ([], n)
  | f + 1, p, n => match firstF (p.drop n) with
    | none => ([], n)
    | some x => (x :: (scanL f p (n + 18 + x.2.length)).1, (scanL f p (n + 18 + x.2.length)).2)
theorem scanL_none {f n : Nat} {p : List Nat} (h : firstF (p.drop n) = none) : scanL f p n = ([], n) := by
  cases f with
  | zero => rfl
  | succ f => rw [scanL, h]
theorem scanL_some {f n : Nat} {p : List Nat} {x : Nat × List Nat} (h : firstF (p.drop n) = some x) : scanL (f + 1) p n = (x :: (scanL f p (n + 18 + x.2.length)).1, (scanL f p (n + 18 + x.2.length)).2) := by
  rw [scanL, h]
def scanF (p : List Nat) : List (Nat × List Nat) × Nat := scanL p.length p 0

/-- The cells of frames: places and payload values. -/
def cellsF (ts : List (Nat × Value × List Nat)) : List Value := ts.flatMap fun t => [.int .u64 (t.1 : Int), t.2.1]
theorem cellsF_len (ts : List (Nat × Value × List Nat)) : (cellsF ts).length = ts.length * 2 := by
  induction ts with
  | nil => rfl
  | cons t r ih => simp only [cellsF, List.flatMap_cons, List.length_append, List.length_cons, List.length_nil] at ih ⊢; omega
theorem cellsF_app (ts : List (Nat × Value × List Nat)) (t : Nat × Value × List Nat) : cellsF (ts ++ [t]) = cellsF ts ++ [.int .u64 (t.1 : Int), t.2.1] := by simp [cellsF]
theorem cellsF_get : ∀ (ts : List (Nat × Value × List Nat)) (i : Nat) (h : i < ts.length), (cellsF ts)[2 * i]? = some (.int .u64 (ts[i].1 : Int)) ∧ (cellsF ts)[2 * i + 1]? = some ts[i].2.1
  | t :: r, 0, _ => by simp [cellsF]
  | t :: r, i + 1, h => by
    have h' : i < r.length := by simpa using h
    have := cellsF_get r i h'
    have e : cellsF (t :: r) = (.int .u64 (t.1 : Int)) :: t.2.1 :: cellsF r := by simp [cellsF]
    rw [e, show 2 * (i + 1) = 2 * i + 1 + 1 by omega]
    simpa using this
theorem Try.infoF : (Try.prog.info? 40).map (fun i => (i.zero, i.size, i.bytes)) = some (some (.agg #[.int .u64 0, .slice none 0 0]), 2, 32) := by kernel_rfl

/-- Frames that are owned, each payload in memory of its own. -/
structure OwnF (w0 w : World) (v : Value) (ts : List (Nat × Value × List Nat)) : Prop where
  own : w.ownsRow w0.heap.size 40 2 v ts.length (cellsF ts)
  rd : ∀ t ∈ ts, Rd w t.2.1 t.2.2
  apart : ∀ t ∈ ts, ∀ b ∈ blk t.2.1, v.ownBlock ≠ some b
  lt : ∀ t ∈ ts, ∀ b ∈ blk t.2.1, b < w.heap.size
  kept : Kept [] w0 w
/-- The slice value v reads as these frames. -/
def RdF (w : World) (v : Value) (fs : List (Nat × List Nat)) : Prop :=
  ∃ (ao : Option Addr) (cap : Nat) (ts : List (Nat × Value × List Nat)), v = .slice ao ts.length cap ∧ fs = ts.map (fun t => (t.1, t.2.2)) ∧ ts.length ≤ cap ∧ cap ≤ 9223372036854775807 ∧ (∀ t ∈ ts, Rd w t.2.1 t.2.2) ∧
    (0 < ts.length → ∃ b off, ao = some ⟨b, off, none⟩ ∧ ∀ i (h : i < ts.length), w.cell? ⟨b, off + i * 2, none⟩ = some (.int .u64 (ts[i].1 : Int)) ∧ w.cell? ⟨b, off + i * 2 + 1, none⟩ = some ts[i].2.1)
theorem RdF.old {w w' : World} {v : Value} {fs : List (Nat × List Nat)} (h : RdF w v fs) (k : Kept [] w w') : RdF w' v fs := by
  obtain ⟨ao, cap, ts, h1, h2, h3, h4, h5, h6⟩ := h
  refine ⟨ao, cap, ts, h1, h2, h3, h4, fun t ht => (h5 t ht).old k (by simp), fun hp => ?_⟩
  obtain ⟨b, off, e, hc⟩ := h6 hp
  exact ⟨b, off, e, fun i hi => ⟨k.cell (hc i hi).1 (by simp), k.cell (hc i hi).2 (by simp)⟩⟩
theorem OwnF.rdF {w0 w : World} {v : Value} {ts : List (Nat × Value × List Nat)} (h : OwnF w0 w v ts) : RdF w v (ts.map fun t => (t.1, t.2.2)) := by
  rcases h.own.2 with ⟨rfl, h0⟩ | ⟨g, cap, cur, rfl, _, hg, hc, hm', hs, ht⟩
  · have : ts = [] := List.eq_nil_of_length_eq_zero h0
    subst this
    exact ⟨none, 0, [], rfl, rfl, Nat.le_refl _, by omega, by simp, fun h => by simp at h⟩
  · refine ⟨some ⟨g, 0, none⟩, cap, ts, rfl, rfl, hc, by unfold maxLen at hm'; omega, h.rd, fun _ => ⟨g, 0, rfl, fun i hi => ?_⟩⟩
    have hx := cellsF_get ts i hi
    have c1 := h.own.cells (g := g) rfl (2 * i) _ hx.1
    have c2 := h.own.cells (g := g) rfl (2 * i + 1) _ hx.2
    rw [Addr.add_mid] at c1 c2
    refine ⟨?_, ?_⟩
    · rw [show 0 + i * 2 = 0 + 2 * i by omega]; exact c1
    · rw [show 0 + i * 2 + 1 = 0 + (2 * i + 1) by omega]; exact c2
/-- One frame more. -/
theorem pushF (w : World) (base : Nat) (v : Value) (ts : List (Nat × Value × List Nat)) (pl : Nat) (x : Value) (H : Nat) (h : w.ownsRow base 40 2 v ts.length (cellsF ts)) (hnew : w.heap[H]? = some (.cells #[.int .u64 (pl : Int), x] 40 (0, 0))) (hx : x.oneCell' = true) (hl : ts.length + 1 ≤ 1000000000000) (hb : base ≤ w.heap.size) :
    ∃ g cap w1, (Builtin.append_ #[55, 55] 55 #[v, .slice (some ⟨H, 0, none⟩) 1 1]).run Try.prog w = .ok (.slice (some ⟨g, 0, none⟩) (ts.length + 1) cap) w1 ∧
      w1.ownsRow base 40 2 (.slice (some ⟨g, 0, none⟩) (ts.length + 1) cap) (ts.length + 1) (cellsF ts ++ [.int .u64 (pl : Int), x]) ∧ w.grownBy w1 v.ownBlock ∧ (v.ownBlock = some g ∨ g = w.heap.size) := by
  obtain ⟨i0, hi, hz0, hz1, hz2⟩ := info_parts Try.infoF
  obtain ⟨g, cap, w1, hr, hown, hgrow, hat, hlt⟩ := run_append_lies (P := Try.prog) w 55 55 base 40 i0 (.agg #[.int .u64 0, .slice none 0 0]) 2 32 Try.underlying55 hi hz0 hz1 hz2 rfl (by decide)
    v ts.length (cellsF ts) h ⟨H, 0, none⟩ 1 1 [.int .u64 (pl : Int), x] rfl (World.news_of_block hnew) (by intro u hu; simp at hu; rcases hu with rfl | rfl; rfl; exact hx) (by decide) (by unfold maxLen; omega) (by omega) hb _ rfl
  exact ⟨g, cap, w1, hr, hown, hgrow, hat⟩
theorem wpList_pushF {ops : Array Oper} {rest : List Oper} {o : Oper} {a : Act} {Q : Exit → Act → World → Prop} (hgd : o.guard = none) (s x : Operand)
    (ho : o.op = .call { callee := .builtin .append, args := #[s, x], argTypes := #[55, 55] }) (hty : o.type = 55)
    (w : World) (base : Nat) (v : Value) (ts : List (Nat × Value × List Nat)) (pl : Nat) (y : Value) (H : Nat) (h : w.ownsRow base 40 2 v ts.length (cellsF ts)) (hnew : w.heap[H]? = some (.cells #[.int .u64 (pl : Int), y] 40 (0, 0))) (hy : y.oneCell' = true) (hl : ts.length + 1 ≤ 1000000000000) (hb : base ≤ w.heap.size)
    (hs : a.eval s = v) (hx : a.eval x = .slice (some ⟨H, 0, none⟩) 1 1)
    (hK : ∀ g cap w1, Hid (w1.ownsRow base 40 2 (.slice (some ⟨g, 0, none⟩) (ts.length + 1) cap) (ts.length + 1) (cellsF ts ++ [.int .u64 (pl : Int), y])) → Hid (w.grownBy w1 v.ownBlock) → Hid (v.ownBlock = some g ∨ g = w.heap.size) →
      wpList Try.prog ops Q rest (a.put o.dst (.slice (some ⟨g, 0, none⟩) (ts.length + 1) cap)) w1) :
    wpList Try.prog ops Q (o :: rest) a w := by
  obtain ⟨g, cap, w1, hrun, h2, h3, h4⟩ := pushF w base v ts pl y H h hnew hy hl hb
  refine wpList_plain hgd fun K hK' => ?_
  unfold Oper.wp execOp
  simp only [ho, hty, resolve, invoke, builtin, Sem.run_bind, Sem.run_pure, Result.andThen_ok, List.map_toArray, List.map_cons, List.map_nil, hs, hx, hrun]
  exact hK' _ _ (hK g cap w1 h2 h3 h4)

theorem OwnF.pass {w0 w w' : World} {v : Value} {ts : List (Nat × Value × List Nat)} (h : OwnF w0 w v ts) (k : Kept [] w w') : OwnF w0 w' v ts :=
  ⟨k.owns h.own (by simp), fun t ht => (h.rd t ht).old k (by simp), h.apart, fun t ht b hb => Nat.lt_of_lt_of_le (h.lt t ht b hb) k.size, h.kept.trans k (by simp)⟩
theorem OwnF.push {w0 w W : World} {v : Value} {ts : List (Nat × Value × List Nat)} (h : OwnF w0 w v ts) {pl : Nat} {y : Value} {pay : List Nat} (hy : Rd w y pay) (hn : ∀ b ∈ blk y, v.ownBlock ≠ some b ∧ b < w.heap.size) {g cap : Nat}
    (o : W.ownsRow w0.heap.size 40 2 (.slice (some ⟨g, 0, none⟩) (ts.length + 1) cap) (ts.length + 1) (cellsF ts ++ [.int .u64 (pl : Int), y])) (gr : w.grownBy W v.ownBlock) (hg : v.ownBlock = some g ∨ g = w.heap.size) :
    OwnF w0 W (.slice (some ⟨g, 0, none⟩) (ts.length + 1) cap) (ts ++ [(pl, y, pay)]) := by
  have kW : Kept v.ownBlock.toList w W := ((Kept.refl _ w)).grown gr (by intro k hk; left; simp [hk])
  have kW0 : Kept [] w0 W := h.kept.grown gr (by intro k hk; right; exact (h.own.lt k hk).1)
  have key : ∀ t ∈ ts ++ [(pl, y, pay)], Rd w t.2.1 t.2.2 ∧ ∀ b ∈ blk t.2.1, v.ownBlock ≠ some b ∧ b < w.heap.size := by
    intro t ht
    rcases List.mem_append.1 ht with ht | ht
    · exact ⟨h.rd t ht, fun b hb => ⟨h.apart t ht b hb, h.lt t ht b hb⟩⟩
    · rw [List.mem_singleton] at ht; subst ht; exact ⟨hy, hn⟩
  refine ⟨?_, fun t ht => ?_, fun t ht b hb e => ?_, fun t ht b hb => ?_, kW0⟩
  · rw [cellsF_app, List.length_append]; exact o
  · exact (key t ht).1.kept kW (fun b hb hm => ((key t ht).2 b hb).1 (by simpa using hm))
  · simp only [Value.ownBlock, Option.some.injEq] at e
    subst e
    rcases hg with hg | hg
    · exact ((key t ht).2 _ hb).1 hg
    · have := ((key t ht).2 _ hb).2; omega
  · have := ((key t ht).2 b hb).2
    have := gr.size
    omega

theorem nextF_two {p : List Nat} {n : Nat} (hn : n ≤ p.length) (h : nextF p n = ⟨0, [], n, 2⟩) : firstF (p.drop n) = none := by
  cases hf : firstF (p.drop n) with
  | none => rfl
  | some x =>
    unfold nextF at h
    by_cases h1 : (n : Int) = p.length
    · rw [if_pos h1] at h; simp at h
    · rw [if_neg h1, if_neg (by omega), Int.toNat_natCast, hf] at h; simp at h

set_option maxRecDepth 100000 in
set_option maxHeartbeats 2000000 in
theorem scan_any (v : Value) (p : List Nat) (w : World) (h : Rd w v p) (hl : p.length ≤ 1000000000) :
    Calls Try.prog 23 #[v] w fun e w' => ∃ v', e = .returned (.tuple #[v', .int .i64 (scanF p).2]) ∧ RdF w' v' (scanF p).1 ∧ Kept [] w w' := by
  have H := hide h
  obtain ⟨a1, n1, c1, rfl, hn1, hc1, ⟨hc2, hc3⟩, _⟩ := id h
  subst hn1
  clear h
  go_enter Try.func23, Try.ntmps23
  go_wp2_with fail
  go_loopw [4, 5] (fun t4 t5 wr => ∃ (n f : Nat) (ts : List (Nat × Value × List Nat)), t5 = .int .i64 n ∧ n ≤ p.length ∧ Hid (p.length ≤ n + f ∧ ts.length ≤ n) ∧ Hid (scanF p = (ts.map (fun t => (t.1, t.2.2)) ++ (scanL f p n).1, (scanL f p n).2)) ∧ Hid (OwnF w wr t4 ts)) (fun _ t _ => p.length - (intOf t).toNat)
  case atStart => exact ⟨0, p.length, [], rfl, Nat.zero_le _, hide ⟨by omega, by simp⟩, hide (by simp [scanF]), hide ⟨World.ownsRow_nil _ _ _ _, by simp, by simp, by simp, Kept.refl _ _⟩⟩
  case round =>
    obtain ⟨n, f, ts, rfl, hn, HN, HS, HO⟩ := hrel
    go_wp2_with fail
    refine Calls.mono (next_any _ p n wr ((unhide H).old (unhide HO).kept (by simp)) (by omega)) ?_
    rintro e w1 ⟨v1, rfl, n1, k1⟩
    have HN1 := hide n1
    have HO1 := hide ((unhide HO).pass k1)
    clear n1
    have hsz1 := k1.size
    rcases nextF_cases p n (unhide H).byte with ⟨hz1, hN⟩ | ⟨hz1, hN⟩ | ⟨m, pl, pay, hzn, hN, b1, b2, b3, b4, b5, b6, b7⟩
    · rw [hN] at HN1 ⊢
      simp only at HN1 ⊢
      obtain ⟨a5, m5, c5, rfl, hm5, _⟩ := id (unhide HN1).1
      have HE := hide (scanL_none (f := f) (n := n) (p := p) (firstF_short (by rw [List.length_drop]; omega)))
      clear k1
      go_wp2
      go_ret2
      have hs := unhide HS
      rw [unhide HE] at hs
      refine ⟨u4, by rw [hs]; rfl, ?_, ((unhide HO1).kept.alloc _)⟩
      rw [hs, List.append_nil]
      exact (unhide HO1).rdF.old ((Kept.refl [] w1).alloc _)
    · have HE := hide (scanL_none (f := f) (n := n) (p := p) (nextF_two (by omega) hN))
      rw [hN] at HN1 ⊢
      simp only at HN1 ⊢
      obtain ⟨a5, m5, c5, rfl, hm5, _⟩ := id (unhide HN1).1
      clear k1
      go_wp2
      go_ret2
      have hs := unhide HS
      rw [unhide HE] at hs
      refine ⟨u4, by rw [hs]; rfl, ?_, ((unhide HO1).kept.alloc _)⟩
      rw [hs, List.append_nil]
      exact (unhide HO1).rdF.old ((Kept.refl [] w1).alloc _)
    · obtain rfl : n = m := by omega
      have HE := hide (fun f => scanL_some (f := f) b7)
      rw [hN] at HN1 ⊢
      simp only at HN1 ⊢
      obtain ⟨a5, m5, c5, rfl, hm5, _, _, _, _, hcl⟩ := id (unhide HN1).1
      subst hm5
      obtain ⟨b', off', e', hcl'⟩ := hcl (by omega)
      subst e'
      have HBL := hide (block_lt_of_cell (hcl' 0 (by omega)))
      obtain ⟨f', rfl⟩ : ∃ f', f = f' + 1 := ⟨f - 1, by have := (unhide HN).1; omega⟩
      have HOW := hide (fun k hk => ((unhide HO).own.lt k hk).2 : ∀ k, u4.ownBlock = some k → k < wr.heap.size)
      have HO2 := hide (((unhide HO1).pass ((Kept.refl [] w1).alloc (.cells #[.int .u64 (pl : Int), .slice (some ⟨b', off', none⟩) pay.length c5] 40))).pass ((Kept.refl [] _).alloc (.cells #[.int .u64 (pl : Int), .slice (some ⟨b', off', none⟩) pay.length c5] 40)))
      have HR2 := hide ((unhide HN1).1.old (((Kept.refl [] w1).alloc (.cells #[.int .u64 (pl : Int), .slice (some ⟨b', off', none⟩) pay.length c5] 40)).alloc (.cells #[.int .u64 (pl : Int), .slice (some ⟨b', off', none⟩) pay.length c5] 40)) (by simp))
      clear k1 hN hcl hcl'
      go_wp2_with (at_builtin; refine wpList_pushF rfl (.tmp 20) (.tmp 22) rfl rfl _ w.heap.size u4 ts pl (.slice (some ⟨b', off', none⟩) pay.length c5) (w1.heap.size + 1) (unhide HO2).own (heap_alloc2_new _ _ _) rfl (by have := (unhide HN).2; omega) (by have := (unhide HO2).kept.size; omega) rfl rfl ?_; intro g cap w2 HO3 HG3 HA3)
      refine ⟨⟨n + 18 + pay.length, f', ts ++ [(pl, .slice (some ⟨b', off', none⟩) pay.length c5, pay)], by simp, b5, hide ⟨by have := (unhide HN).1; omega, by have := (unhide HN).2; rw [List.length_append]; simp; omega⟩, hide ?_, hide ?_⟩, ?_⟩
      · rw [unhide HS, unhide HE f']
        simp
      · refine (unhide HO2).push (unhide HR2) ?_ (unhide HO3) (unhide HG3) (unhide HA3)
        intro b hb
        simp only [blk, List.mem_singleton] at hb
        subst hb
        have h7 := (unhide HN1).2 b (by simp [blk])
        have h8 := unhide HBL
        simp only at h8
        refine ⟨fun e => by have := unhide HOW _ e; omega, ?_⟩
        simp; omega
      · simp [intOf]; omega
end Go.Proofs.Ytjbmafjnbncbpaa
