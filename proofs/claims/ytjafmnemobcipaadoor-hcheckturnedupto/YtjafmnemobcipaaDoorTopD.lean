import Derived.Test.YtjafmnemobcipaaDoorTopC
import Derived.Test.YtjafmnemobcipaaDoorRowz
import Derived.Deep.RegionHeld3
namespace Go.Proofs.YtjafmnemobcipaaDoor
open Go.RowKit Go.BigFrame
set_option linter.unusedVariables false
set_option linter.unusedSimpArgs false
section
variable {α : Type}
/-- The cells of elements of two cells. -/
def cells2 (ts : List (α × Value × Value)) : List Value := ts.flatMap fun t => [t.2.1, t.2.2]
theorem cells2_len (ts : List (α × Value × Value)) : (cells2 ts).length = ts.length * 2 := by
  induction ts with
  | nil => rfl
  | cons t r ih => simp only [cells2, List.flatMap_cons, List.length_append, List.length_cons, List.length_nil] at ih ⊢; omega
theorem cells2_app (ts : List (α × Value × Value)) (t : α × Value × Value) : cells2 (ts ++ [t]) = cells2 ts ++ [t.2.1, t.2.2] := by simp [cells2]
theorem cells2_get : ∀ (ts : List (α × Value × Value)) (i : Nat) (h : i < ts.length), (cells2 ts)[2 * i]? = some ts[i].2.1 ∧ (cells2 ts)[2 * i + 1]? = some ts[i].2.2
  | t :: r, 0, _ => by simp [cells2]
  | t :: r, i + 1, h => by
    have h' : i < r.length := by simpa using h
    have := cells2_get r i h'
    have e : cells2 (t :: r) = t.2.1 :: t.2.2 :: cells2 r := by simp [cells2]
    rw [e, show 2 * (i + 1) = 2 * i + 1 + 1 by omega]
    simpa using this
/-- How an element reads, and the blocks that its lists lie in. -/
structure Kind2 (α : Type) where
  T : TypeId
  R : World → α → Value → Value → Prop
  B : α → Value → Value → List Nat
  keep : ∀ {L : List Nat} {w w' : World} {a : α} {x y : Value}, R w a x y → Kept L w w' → (∀ b ∈ B a x y, b ∉ L) → R w' a x y
/-- Elements of two cells in memory of their own, their lists in memory of their own. -/
structure Own2 (K : Kind2 α) (base : Nat) (w : World) (v : Value) (ts : List (α × Value × Value)) : Prop where
  own : w.ownsRow base K.T 2 v ts.length (cells2 ts)
  ok : ∀ t ∈ ts, K.R w t.1 t.2.1 t.2.2
  apart : ∀ t ∈ ts, ∀ b ∈ K.B t.1 t.2.1 t.2.2, v.ownBlock ≠ some b ∧ base ≤ b ∧ b < w.heap.size
theorem Own2.start (K : Kind2 α) (base : Nat) (w : World) : Own2 K base w (.slice none 0 0) [] := ⟨World.ownsRow_nil _ _ _ _, by simp, by simp⟩
theorem Own2.pass {K : Kind2 α} {base : Nat} {w w' : World} {v : Value} {ts : List (α × Value × Value)} {M : List Nat} (h : Own2 K base w v ts) (k : Kept M w w') (hM : ∀ x ∈ M, x < base) : Own2 K base w' v ts :=
  ⟨k.owns h.own (fun g hg hm => by have := (h.own.lt g hg).1; have := hM g hm; omega), fun t ht => K.keep (h.ok t ht) k (fun b hb hm => by have := (h.apart t ht b hb).2.1; have := hM b hm; omega), fun t ht b hb => by have h9 := h.apart t ht b hb; exact ⟨h9.1, h9.2.1, Nat.lt_of_lt_of_le h9.2.2 k.size⟩⟩
theorem Own2.push {K : Kind2 α} {base : Nat} {w W : World} {v : Value} {ts : List (α × Value × Value)} (h : Own2 K base w v ts) {a : α} {x y : Value} (hr : K.R w a x y) (hb : ∀ b ∈ K.B a x y, v.ownBlock ≠ some b ∧ base ≤ b ∧ b < w.heap.size) {g cap : Nat}
    (o : W.ownsRow base K.T 2 (.slice (some ⟨g, 0, none⟩) (ts.length + 1) cap) (ts.length + 1) (cells2 ts ++ [x, y])) (gr : w.grownBy W v.ownBlock) (hg : v.ownBlock = some g ∨ g = w.heap.size) : Own2 K base W (.slice (some ⟨g, 0, none⟩) (ts.length + 1) cap) (ts ++ [(a, x, y)]) := by
  have kW : Kept v.ownBlock.toList w W := (Kept.refl _ w).grown gr (by intro k hk; left; simp [hk])
  have key : ∀ t ∈ ts ++ [(a, x, y)], K.R w t.1 t.2.1 t.2.2 ∧ ∀ b ∈ K.B t.1 t.2.1 t.2.2, v.ownBlock ≠ some b ∧ base ≤ b ∧ b < w.heap.size := by
    intro t ht
    rcases List.mem_append.1 ht with ht | ht
    · exact ⟨h.ok t ht, h.apart t ht⟩
    · rw [List.mem_singleton] at ht; subst ht; exact ⟨hr, hb⟩
  refine ⟨?_, fun t ht => K.keep (key t ht).1 kW (fun b hb hm => ((key t ht).2 b hb).1 (by simpa using hm)), fun t ht b hb => ?_⟩
  · rw [cells2_app, List.length_append]; exact o
  · have h9 := (key t ht).2 b hb
    refine ⟨fun e => ?_, h9.2.1, Nat.lt_of_lt_of_le h9.2.2 kW.size⟩
    simp only [Value.ownBlock, Option.some.injEq] at e
    subst e
    rcases hg with hg | hg
    · exact h9.1 hg
    · omega
end

/-- Blocks of digests: of none none. -/
def dblk (v : Value) (ds : List (List Nat)) : List Nat := if ds = [] then [] else blk v
theorem RdD.keptD {L : List Nat} {w w' : World} {v : Value} {ds : List (List Nat)} (h : RdD w v ds) (k : Kept L w w') (hn : ∀ x ∈ dblk v ds, x ∉ L) : RdD w' v ds := by
  obtain ⟨ao, len, cap, rfl, h1, h2, h3, h4, h5⟩ := h
  refine ⟨ao, len, cap, rfl, h1, h2, h3, h4, fun hp => ?_⟩
  obtain ⟨b, off, rfl, hc⟩ := h5 hp
  have hne : ds ≠ [] := by rintro rfl; simp at h1; omega
  refine ⟨b, off, rfl, fun i hi j u hu => k.cell (hc i hi j u hu) (hn b ?_)⟩
  unfold dblk
  rw [if_neg hne]
  simp [blk]
def eblk (v : Value) (bs : List Nat) : List Nat := if bs = [] then [] else blk v
theorem Rd.keptE {L : List Nat} {w w' : World} {v : Value} {bs : List Nat} (h : Rd w v bs) (k : Kept L w w') (hn : ∀ x ∈ eblk v bs, x ∉ L) : Rd w' v bs := by
  by_cases he : bs = []
  · subst he
    obtain ⟨ao, len, cap, rfl, h1, h2, h3, h4, h5, h6⟩ := h
    exact ⟨ao, len, cap, rfl, h1, h2, h3, h4, h5, fun hp => by simp at h1; omega⟩
  · exact h.kept k (by unfold eblk at hn; rw [if_neg he] at hn; exact hn)
def kStep : Kind2 (Nat × List (List Nat)) := ⟨43, fun w s x y => s.1 < 65536 ∧ x = .int .u16 (s.1 : Int) ∧ RdD w y s.2, fun s x y => dblk y s.2, fun h k hn => ⟨h.1, h.2.1, h.2.2.keptD k hn⟩⟩
def kPair : Kind2 (List Nat × List Nat) := ⟨64, fun w p x y => Rd w x p.1 ∧ Rd w y p.2, fun p x y => eblk x p.1 ++ eblk y p.2, fun h k hn => ⟨h.1.keptE k (fun b hb => hn b (List.mem_append_left _ hb)), h.2.keptE k (fun b hb => hn b (List.mem_append_right _ hb))⟩⟩
theorem Own2.rdS {base : Nat} {w : World} {v : Value} {ts : List ((Nat × List (List Nat)) × Value × Value)} (h : Own2 kStep base w v ts) : RdS w v (ts.map (·.1)) := by
  rcases h.own.2 with ⟨rfl, h0⟩ | ⟨g, cap, cur, rfl, _, hg, hc, hm', hs, ht⟩
  · have : ts = [] := List.eq_nil_of_length_eq_zero h0
    subst this
    exact RdS.nil w
  · refine ⟨some ⟨g, 0, none⟩, ts.length, cap, ts.map (·.2.2), rfl, by simp, hc, by unfold maxLen at hm'; omega, fun i hi => ?_, fun _ => ⟨g, 0, rfl, fun i hi => ?_⟩⟩
    · have h9 := h.ok ts[i] (List.getElem_mem hi)
      have := And.intro h9.1 h9.2.2
      simpa [List.getD_eq_getElem?_getD, hi] using this
    · have h9 := h.ok ts[i] (List.getElem_mem hi)
      have hx := cells2_get ts i hi
      have c0 := h.own.cells (g := g) rfl (2 * i) _ hx.1
      have c1 := h.own.cells (g := g) rfl (2 * i + 1) _ hx.2
      rw [Addr.add_mid] at c0 c1
      rw [h9.2.1] at c0
      rw [show 0 + i * 2 = 0 + 2 * i by omega, show 0 + 2 * i + 1 = 0 + (2 * i + 1) by omega]
      have := And.intro c0 c1
      simpa [List.getD_eq_getElem?_getD, hi] using this
theorem Own2.rdK {base : Nat} {w : World} {v : Value} {ts : List ((List Nat × List Nat) × Value × Value)} (h : Own2 kPair base w v ts) : RdK w v (ts.map (·.1)) := by
  rcases h.own.2 with ⟨rfl, h0⟩ | ⟨g, cap, cur, rfl, _, hg, hc, hm', hs, ht⟩
  · have : ts = [] := List.eq_nil_of_length_eq_zero h0
    subst this
    exact ⟨none, 0, 0, [], [], rfl, rfl, Nat.le_refl _, by omega, fun i h => by simp at h, fun h => by simp at h⟩
  · refine ⟨some ⟨g, 0, none⟩, ts.length, cap, ts.map (·.2.1), ts.map (·.2.2), rfl, by simp, hc, by unfold maxLen at hm'; omega, fun i hi => ?_, fun _ => ⟨g, 0, rfl, fun i hi => ?_⟩⟩
    · have h9 := h.ok ts[i] (List.getElem_mem hi)
      have := And.intro h9.1 h9.2
      simpa [List.getD_eq_getElem?_getD, hi] using this
    · have hx := cells2_get ts i hi
      have c0 := h.own.cells (g := g) rfl (2 * i) _ hx.1
      have c1 := h.own.cells (g := g) rfl (2 * i + 1) _ hx.2
      rw [Addr.add_mid] at c0 c1
      rw [show 0 + i * 2 = 0 + 2 * i by omega, show 0 + 2 * i + 1 = 0 + (2 * i + 1) by omega]
      have := And.intro c0 c1
      simpa [List.getD_eq_getElem?_getD, hi] using this

theorem Tryd.infoS2 : (Tryd.prog.info? 43).map (fun i => (i.zero, i.size, i.bytes)) = some (some (.agg #[.int .u16 0, .slice none 0 0]), 2, 32) := by kernel_rfl
theorem Tryd.infoP2 : (Tryd.prog.info? 64).map (fun i => (i.zero, i.size, i.bytes)) = some (some (.agg #[.slice none 0 0, .slice none 0 0]), 2, 48) := by kernel_rfl
theorem pushS {α : Type} (w : World) (base : Nat) (v : Value) (ts : List (α × Value × Value)) (x y : Value) (H : Nat) (h : w.ownsRow base 43 2 v ts.length (cells2 ts)) (hnew : w.heap[H]? = some (.cells #[x, y] 43 (0, 0))) (hx : x.oneCell' = true) (hy : y.oneCell' = true) (hl : ts.length + 1 ≤ 1000000000) (hb : base ≤ w.heap.size) :
    ∃ g cap w1, (Builtin.append_ #[23, 23] 23 #[v, .slice (some ⟨H, 0, none⟩) 1 1]).run Tryd.prog w = .ok (.slice (some ⟨g, 0, none⟩) (ts.length + 1) cap) w1 ∧
      w1.ownsRow base 43 2 (.slice (some ⟨g, 0, none⟩) (ts.length + 1) cap) (ts.length + 1) (cells2 ts ++ [x, y]) ∧ w.grownBy w1 v.ownBlock ∧ (v.ownBlock = some g ∨ g = w.heap.size) := by
  obtain ⟨i0, hi, hz0, hz1, hz2⟩ := info_parts Tryd.infoS2
  obtain ⟨g, cap, w1, hr, hown, hgrow, hat, hlt⟩ := run_append_lies (P := Tryd.prog) w 23 23 base 43 i0 (.agg #[.int .u16 0, .slice none 0 0]) 2 32 Tryd.underlying23 hi hz0 hz1 hz2 rfl (by decide)
    v ts.length (cells2 ts) h ⟨H, 0, none⟩ 1 1 [x, y] rfl (World.news_of_block hnew) (by intro u hu; simp at hu; rcases hu with rfl | rfl; exact hx; exact hy) (by decide) (by unfold maxLen; omega) (by omega) hb _ rfl
  exact ⟨g, cap, w1, hr, hown, hgrow, hat⟩
theorem pushP {α : Type} (w : World) (base : Nat) (v : Value) (ts : List (α × Value × Value)) (x y : Value) (H : Nat) (h : w.ownsRow base 64 2 v ts.length (cells2 ts)) (hnew : w.heap[H]? = some (.cells #[x, y] 64 (0, 0))) (hx : x.oneCell' = true) (hy : y.oneCell' = true) (hl : ts.length + 1 ≤ 1000000000) (hb : base ≤ w.heap.size) :
    ∃ g cap w1, (Builtin.append_ #[24, 24] 24 #[v, .slice (some ⟨H, 0, none⟩) 1 1]).run Tryd.prog w = .ok (.slice (some ⟨g, 0, none⟩) (ts.length + 1) cap) w1 ∧
      w1.ownsRow base 64 2 (.slice (some ⟨g, 0, none⟩) (ts.length + 1) cap) (ts.length + 1) (cells2 ts ++ [x, y]) ∧ w.grownBy w1 v.ownBlock ∧ (v.ownBlock = some g ∨ g = w.heap.size) := by
  obtain ⟨i0, hi, hz0, hz1, hz2⟩ := info_parts Tryd.infoP2
  obtain ⟨g, cap, w1, hr, hown, hgrow, hat, hlt⟩ := run_append_lies (P := Tryd.prog) w 24 24 base 64 i0 (.agg #[.slice none 0 0, .slice none 0 0]) 2 48 Tryd.underlying24 hi hz0 hz1 hz2 rfl (by decide)
    v ts.length (cells2 ts) h ⟨H, 0, none⟩ 1 1 [x, y] rfl (World.news_of_block hnew) (by intro u hu; simp at hu; rcases hu with rfl | rfl; exact hx; exact hy) (by decide) (by unfold maxLen; omega) (by omega) hb _ rfl
  exact ⟨g, cap, w1, hr, hown, hgrow, hat⟩
theorem wp_append {P : Program} {o : Oper} {a : Act} {w : World} {K : Act → World → Prop} {Q : Exit → Act → World → Prop} {s x : Operand} {t : TypeId} (ho : o.op = .call { callee := .builtin .append, args := #[s, x], argTypes := #[t, t] }) (hty : o.type = t) {v u r : Value} {w1 : World} (hs : a.eval s = v) (hx : a.eval x = u)
    (hrun : (Builtin.append_ #[t, t] t #[v, u]).run P w = .ok r w1) (hK : K (a.put o.dst r) w1) : o.wp P a w K Q := by
  unfold Oper.wp execOp
  simp only [ho, hty, resolve, invoke, builtin, Sem.run_bind, Sem.run_pure, Result.andThen_ok, List.map_toArray, List.map_cons, List.map_nil, hs, hx, hrun]
  exact hK
end Go.Proofs.YtjafmnemobcipaaDoor
namespace Go.Proofs.YtjafmnemobcipaaDoor
open Go.RowKit Go.BigFrame
set_option linter.unusedVariables false
set_option linter.unusedSimpArgs false

/-- Lists of bytes in a row of its own; the lists lie elsewhere. -/
structure OwnV (base : Nat) (w : World) (v : Value) (ts : List (List Nat × Value)) : Prop where
  own : w.ownsRow base 22 1 v ts.length (ts.map (·.2))
  ok : ∀ t ∈ ts, Rd w t.2 t.1
  apart : ∀ t ∈ ts, ∀ b ∈ eblk t.2 t.1, v.ownBlock ≠ some b ∧ b < w.heap.size
theorem OwnV.start (base : Nat) (w : World) : OwnV base w (.slice none 0 0) [] := ⟨World.ownsRow_nil _ _ _ _, by simp, by simp⟩
theorem OwnV.pass {base : Nat} {w w' : World} {v : Value} {ts : List (List Nat × Value)} (h : OwnV base w v ts) (k : Kept [] w w') : OwnV base w' v ts :=
  ⟨k.owns h.own (by simp), fun t ht => (h.ok t ht).old k (by simp), fun t ht b hb => ⟨(h.apart t ht b hb).1, Nat.lt_of_lt_of_le (h.apart t ht b hb).2 k.size⟩⟩
theorem OwnV.push {base : Nat} {w W : World} {v : Value} {ts : List (List Nat × Value)} (h : OwnV base w v ts) {bs : List Nat} {x : Value} (hr : Rd w x bs) (hb : ∀ b ∈ eblk x bs, v.ownBlock ≠ some b ∧ b < w.heap.size) {g cap : Nat} {xs : List Value} (hxs : ts.map (·.2) = xs)
    (o : W.ownsRow base 22 1 (.slice (some ⟨g, 0, none⟩) (xs.length + 1) cap) (xs.length + 1) (xs ++ [x])) (gr : w.grownBy W v.ownBlock) (hg : v.ownBlock = some g ∨ g = w.heap.size) : OwnV base W (.slice (some ⟨g, 0, none⟩) (xs.length + 1) cap) (ts ++ [(bs, x)]) := by
  subst hxs
  have kW : Kept v.ownBlock.toList w W := (Kept.refl _ w).grown gr (by intro k hk; left; simp [hk])
  have key : ∀ t ∈ ts ++ [(bs, x)], Rd w t.2 t.1 ∧ ∀ b ∈ eblk t.2 t.1, v.ownBlock ≠ some b ∧ b < w.heap.size := by
    intro t ht
    rcases List.mem_append.1 ht with ht | ht
    · exact ⟨h.ok t ht, h.apart t ht⟩
    · rw [List.mem_singleton] at ht; subst ht; exact ⟨hr, hb⟩
  refine ⟨?_, fun t ht => (key t ht).1.keptE kW (fun b hb hm => ((key t ht).2 b hb).1 (by simpa using hm)), fun t ht b hb => ?_⟩
  · rw [List.length_map] at o ⊢
    rw [List.length_append, List.map_append]; exact o
  · have h9 := (key t ht).2 b hb
    refine ⟨fun e => ?_, Nat.lt_of_lt_of_le h9.2 kW.size⟩
    simp only [Value.ownBlock, Option.some.injEq] at e
    subst e
    rcases hg with hg | hg
    · exact h9.1 hg
    · omega
theorem OwnV.xs {base : Nat} {w : World} {v : Value} {ts : List (List Nat × Value)} (h : OwnV base w v ts) {xs : List Value} (hxs : ts.map (·.2) = xs) : w.ownsRow base 22 1 v xs.length xs := by
  subst hxs; rw [List.length_map]; exact h.own
theorem OwnV.rdl {base : Nat} {w : World} {v : Value} {ts : List (List Nat × Value)} (h : OwnV base w v ts) : RdL w v (ts.map (·.1)) := by
  have hrd : ∀ j, j < ts.length → Rd w ((ts.map (·.2)).getD j undef) ((ts.map (·.1)).getD j []) := fun j hj => by
    have h9 := h.ok ts[j] (List.getElem_mem hj)
    simpa [List.getD_eq_getElem?_getD, hj] using h9
  rcases h.own.2 with ⟨rfl, h0⟩ | ⟨g, cap, cur, rfl, _, hg, hc, hm', hs, ht⟩
  · have : ts = [] := List.eq_nil_of_length_eq_zero (by omega)
    subst this
    exact ⟨none, 0, 0, [], rfl, rfl, rfl, Nat.le_refl _, by omega, fun h => by omega, fun i h => by omega⟩
  · refine ⟨_, _, _, ts.map (·.2), rfl, by simp, by simp, hc, by unfold maxLen at hm'; omega, fun _ => ⟨g, 0, rfl, fun j hj => ?_⟩, hrd⟩
    have := h.own.cells (g := g) rfl j ((ts.map (·.2)).getD j undef) (by rw [List.getD_eq_getElem?_getD, List.getElem?_eq_getElem (by simpa using hj)]; rfl)
    rw [Addr.add_mid] at this; exact this
theorem newB_eblk {w w' : World} {v : Value} {bs : List Nat} (h : NewB w w' v bs) : ∀ b ∈ eblk v bs, w.heap.size ≤ b ∧ b < w'.heap.size := by
  intro b hb
  unfold eblk at hb
  split at hb
  · simp at hb
  · rcases h.2 with ⟨h0, _⟩ | ⟨g, rfl, hg, hc⟩
    · contradiction
    · simp only [blk, List.mem_singleton] at hb
      subst hb
      exact ⟨hg, lt_of_block hc⟩
end Go.Proofs.YtjafmnemobcipaaDoor
namespace Go.Proofs.YtjafmnemobcipaaDoor
open Go.RowKit Go.BigFrame
set_option linter.unusedVariables false
set_option linter.unusedSimpArgs false

set_option maxRecDepth 100000 in
set_option maxHeartbeats 2000000 in
theorem child_any (z : Int) (kv : Value) (key : List Nat) (i : Nat) (w : World) (hz : -9223372036854775808 ≤ z ∧ z ≤ 9223372036854775807) (hi : i ≤ 1000000000000) (hk : Rd w kv key) (hkl : key.length ≤ 64) (hT : Tabs w) :
    Calls Tryd.prog 23 #[.int .i64 z, kv, .int .i64 i] w fun e w' => e = .returned (.int .i64 (atC z (keyS z key) i : Nat)) ∧ Kept [] w w' := by
  obtain ⟨ka, kn, kc, rfl, hkn, _⟩ := id hk
  have HT := hide hT
  have HKY := hide hk
  clear hk hT hkn
  go_enter Tryd.func23, Tryd.ntmps23
  go_wp2_with fail
  refine Calls.mono (key_all z _ key w hz (unhide HKY) (by omega) (unhide HT)) ?_
  rintro e w2 ⟨rfl, k2⟩
  rw [show sumD z (2 :: key) = keyS z key from rfl]
  have HDG := hide (keyS_dg z key)
  have hd := (unhide HDG).1
  have HSZ := hide (Tryd.szD hd)
  have kN := (k2.alloc (.cells (zb 32) 29)).setRow (g := w2.heap.size) (Or.inr k2.size) (brow (keyS z key))
  have HN2 := hide (setRow_heap (w2.alloc (.cells (zb 32) 29)) w2.heap.size (zb 32) (brow (keyS z key)) 29 (0, 0) (heap_alloc_new _ _))
  have HKN := hide kN
  clear kN k2
  obtain ⟨D, hDe⟩ : ∃ D, keyS z key = D := ⟨_, rfl⟩
  have HDE := hide hDe
  rw [hDe] at HDG hd HSZ HN2 HKN ⊢
  clear hDe
  go_wp2_with (first
    | (rw [zb32]; refine wpList_store_row rfl 29 _ _ rfl w2.heap.size (brow D) rfl rfl _ (zb 32) (heap_alloc_new _ _) (unhide HSZ) (by rw [zb_size, brow_size, hd]) (brow_one _) ?_)
    | (refine wpList_load_row rfl 29 _ rfl w2.heap.size rfl _ (brow D) (0, 0) _ (unhide HN2) Tryd.underlying29 rfl (unhide HSZ) ?_))
  refine Calls.mono (at_any z D i _ hz (by omega) (unhide HDG)) ?_
  rintro e w3 ⟨rfl, k3⟩
  go_wp2_with fail
  go_ret
  rw [unhide HDE]
  exact ⟨rfl, (unhide HKN).trans k3 (by simp)⟩
end Go.Proofs.YtjafmnemobcipaaDoor
namespace Go.Proofs.YtjafmnemobcipaaDoor
open Go.RowKit Go.BigFrame
set_option linter.unusedVariables false
set_option linter.unusedSimpArgs false

theorem appendDA (w : World) (base : Nat) (v : Value) (ds ps : List (List Nat)) (ao : Option Addr) (n c : Nat) (h : w.ownsRow base 29 32 v ds.length (flatD ds)) (hr : RdD w (.slice ao n c) ps) (hl : ds.length + ps.length ≤ 1000000000000) (hb : base ≤ w.heap.size) :
    ∃ ao' cap' w1, (Builtin.append_ #[41, 41] 41 #[v, .slice ao n c]).run Tryd.prog w = .ok (.slice ao' (ds.length + ps.length) cap') w1 ∧
      w1.ownsRow base 29 32 (.slice ao' (ds.length + ps.length) cap') (ds ++ ps).length (flatD (ds ++ ps)) ∧ w.grownBy w1 v.ownBlock ∧ ((Value.slice ao' (ds.length + ps.length) cap').ownBlock = v.ownBlock ∨ (Value.slice ao' (ds.length + ps.length) cap').ownBlock = some w.heap.size) := by
  obtain ⟨i0, hi, hz0, hz1, hz2⟩ := info_parts Tryd.infoD
  have hn := hr.nil_len
  have hdg : ∀ d ∈ ps, d.length = 32 := fun d hd => (hr.dg hd).1
  rw [flatD_app, List.length_append]
  by_cases h0 : n = 0
  · subst h0
    have hp : ps = [] := List.eq_nil_of_length_eq_zero hn
    subst hp
    cases ao with
    | none =>
      have hrun := append_none (P := Tryd.prog) (w := w) base 41 41 29 i0 32 c Tryd.underlying41 hi v ds.length (flatD ds) h
      obtain ⟨ao', cap', rfl⟩ := owns_form h
      exact ⟨ao', cap', w, hrun, by simpa [flatD] using h, World.grownBy.refl _ _, Or.inl rfl⟩
    | some ad =>
      obtain ⟨v', w1, hrun, hown, hgrow, _, hat⟩ := run_append_own_at (P := Tryd.prog) w base 41 41 29 i0 (.agg (zb 32)) 32 32 Tryd.underlying41 hi hz0 hz1 hz2 (by show (zb 32).size = 32; exact zb_size 32) (by decide)
        v ds.length (flatD ds) h ad 0 c (flatD []) (by simp [flatD]) (by intro j u hj; simp [flatD] at hj) (flatD_one _) (by unfold maxLen; omega) (by omega) hb
      obtain ⟨ao', cap', rfl⟩ := owns_form hown
      exact ⟨ao', cap', w1, hrun, hown, hgrow, hat⟩
  · have hr' := hr
    obtain ⟨ao1, n1, c1, he, h1, h2, h3, h4, h5⟩ := hr'
    cases he
    obtain ⟨b, off, rfl, hc⟩ := h5 (by omega)
    obtain ⟨v', w1, hrun, hown, hgrow, _, hat⟩ := run_append_own_at (P := Tryd.prog) w base 41 41 29 i0 (.agg (zb 32)) 32 32 Tryd.underlying41 hi hz0 hz1 hz2 (by show (zb 32).size = 32; exact zb_size 32) (by decide)
      v ds.length (flatD ds) h ⟨b, off, none⟩ n c (flatD ps) (by rw [flatD_len hdg, hn]) hr.news (flatD_one _) (by unfold maxLen; omega) (by omega) hb
    subst h1
    obtain ⟨ao', cap', rfl⟩ := owns_form hown
    exact ⟨ao', cap', w1, hrun, hown, hgrow, hat⟩

end Go.Proofs.YtjafmnemobcipaaDoor
/-
  Laws for drawn regions, by genreg.py. No program.
-/
namespace Go.Proofs.YtjafmnemobcipaaDoor
open Go Go.RowKit Go.BigFrame
set_option linter.unusedVariables false
set_option linter.unusedSimpArgs false
section
variable {P : Program} {Q : Exit → Act → World → Prop}
theorem wp_in18 {id : Nat} {o0 o1 o2 o3 o4 o5 o6 o7 o8 o9 o10 o11 o12 o13 o14 o15 o16 o17 : Oper} {a : Act} {w : World} (hm : P.follows .mixedOrders = true) (hs : Region.noSelect #[o0, o1, o2, o3, o4, o5, o6, o7, o8, o9, o10, o11, o12, o13, o14, o15, o16, o17] = true)
    (f0 : Region.free .any #[o0, o1, o2, o3, o4, o5, o6, o7, o8, o9, o10, o11, o12, o13, o14, o15, o16, o17] #[false, false, false, false, false, false, false, false, false, false, false, false, false, false, false, false, false, false] 0 = true) (r0 : (Region.ready .any #[o0, o1, o2, o3, o4, o5, o6, o7, o8, o9, o10, o11, o12, o13, o14, o15, o16, o17] #[false, false, false, false, false, false, false, false, false, false, false, false, false, false, false, false, false, false]).contains 0 = true)
    (f1 : Region.free .any #[o0, o1, o2, o3, o4, o5, o6, o7, o8, o9, o10, o11, o12, o13, o14, o15, o16, o17] #[true, false, false, false, false, false, false, false, false, false, false, false, false, false, false, false, false, false] 1 = true) (r1 : (Region.ready .any #[o0, o1, o2, o3, o4, o5, o6, o7, o8, o9, o10, o11, o12, o13, o14, o15, o16, o17] #[true, false, false, false, false, false, false, false, false, false, false, false, false, false, false, false, false, false]).contains 1 = true)
    (f2 : Region.free .any #[o0, o1, o2, o3, o4, o5, o6, o7, o8, o9, o10, o11, o12, o13, o14, o15, o16, o17] #[true, true, false, false, false, false, false, false, false, false, false, false, false, false, false, false, false, false] 2 = true) (r2 : (Region.ready .any #[o0, o1, o2, o3, o4, o5, o6, o7, o8, o9, o10, o11, o12, o13, o14, o15, o16, o17] #[true, true, false, false, false, false, false, false, false, false, false, false, false, false, false, false, false, false]).contains 2 = true)
    (f3 : Region.free .any #[o0, o1, o2, o3, o4, o5, o6, o7, o8, o9, o10, o11, o12, o13, o14, o15, o16, o17] #[true, true, true, false, false, false, false, false, false, false, false, false, false, false, false, false, false, false] 3 = true) (r3 : (Region.ready .any #[o0, o1, o2, o3, o4, o5, o6, o7, o8, o9, o10, o11, o12, o13, o14, o15, o16, o17] #[true, true, true, false, false, false, false, false, false, false, false, false, false, false, false, false, false, false]).contains 3 = true)
    (f4 : Region.free .any #[o0, o1, o2, o3, o4, o5, o6, o7, o8, o9, o10, o11, o12, o13, o14, o15, o16, o17] #[true, true, true, true, false, false, false, false, false, false, false, false, false, false, false, false, false, false] 4 = true) (r4 : (Region.ready .any #[o0, o1, o2, o3, o4, o5, o6, o7, o8, o9, o10, o11, o12, o13, o14, o15, o16, o17] #[true, true, true, true, false, false, false, false, false, false, false, false, false, false, false, false, false, false]).contains 4 = true)
    (f5 : Region.free .any #[o0, o1, o2, o3, o4, o5, o6, o7, o8, o9, o10, o11, o12, o13, o14, o15, o16, o17] #[true, true, true, true, true, false, false, false, false, false, false, false, false, false, false, false, false, false] 5 = true) (r5 : (Region.ready .any #[o0, o1, o2, o3, o4, o5, o6, o7, o8, o9, o10, o11, o12, o13, o14, o15, o16, o17] #[true, true, true, true, true, false, false, false, false, false, false, false, false, false, false, false, false, false]).contains 5 = true)
    (f6 : Region.free .any #[o0, o1, o2, o3, o4, o5, o6, o7, o8, o9, o10, o11, o12, o13, o14, o15, o16, o17] #[true, true, true, true, true, true, false, false, false, false, false, false, false, false, false, false, false, false] 6 = true) (r6 : (Region.ready .any #[o0, o1, o2, o3, o4, o5, o6, o7, o8, o9, o10, o11, o12, o13, o14, o15, o16, o17] #[true, true, true, true, true, true, false, false, false, false, false, false, false, false, false, false, false, false]).contains 6 = true)
    (f7 : Region.free .any #[o0, o1, o2, o3, o4, o5, o6, o7, o8, o9, o10, o11, o12, o13, o14, o15, o16, o17] #[true, true, true, true, true, true, true, false, false, false, false, false, false, false, false, false, false, false] 7 = true) (r7 : (Region.ready .any #[o0, o1, o2, o3, o4, o5, o6, o7, o8, o9, o10, o11, o12, o13, o14, o15, o16, o17] #[true, true, true, true, true, true, true, false, false, false, false, false, false, false, false, false, false, false]).contains 7 = true)
    (f8 : Region.free .any #[o0, o1, o2, o3, o4, o5, o6, o7, o8, o9, o10, o11, o12, o13, o14, o15, o16, o17] #[true, true, true, true, true, true, true, true, false, false, false, false, false, false, false, false, false, false] 8 = true) (r8 : (Region.ready .any #[o0, o1, o2, o3, o4, o5, o6, o7, o8, o9, o10, o11, o12, o13, o14, o15, o16, o17] #[true, true, true, true, true, true, true, true, false, false, false, false, false, false, false, false, false, false]).contains 8 = true)
    (f9 : Region.free .any #[o0, o1, o2, o3, o4, o5, o6, o7, o8, o9, o10, o11, o12, o13, o14, o15, o16, o17] #[true, true, true, true, true, true, true, true, true, false, false, false, false, false, false, false, false, false] 9 = true) (r9 : (Region.ready .any #[o0, o1, o2, o3, o4, o5, o6, o7, o8, o9, o10, o11, o12, o13, o14, o15, o16, o17] #[true, true, true, true, true, true, true, true, true, false, false, false, false, false, false, false, false, false]).contains 9 = true)
    (f10 : Region.free .any #[o0, o1, o2, o3, o4, o5, o6, o7, o8, o9, o10, o11, o12, o13, o14, o15, o16, o17] #[true, true, true, true, true, true, true, true, true, true, false, false, false, false, false, false, false, false] 10 = true) (r10 : (Region.ready .any #[o0, o1, o2, o3, o4, o5, o6, o7, o8, o9, o10, o11, o12, o13, o14, o15, o16, o17] #[true, true, true, true, true, true, true, true, true, true, false, false, false, false, false, false, false, false]).contains 10 = true)
    (f11 : Region.free .any #[o0, o1, o2, o3, o4, o5, o6, o7, o8, o9, o10, o11, o12, o13, o14, o15, o16, o17] #[true, true, true, true, true, true, true, true, true, true, true, false, false, false, false, false, false, false] 11 = true) (r11 : (Region.ready .any #[o0, o1, o2, o3, o4, o5, o6, o7, o8, o9, o10, o11, o12, o13, o14, o15, o16, o17] #[true, true, true, true, true, true, true, true, true, true, true, false, false, false, false, false, false, false]).contains 11 = true)
    (f12 : Region.free .any #[o0, o1, o2, o3, o4, o5, o6, o7, o8, o9, o10, o11, o12, o13, o14, o15, o16, o17] #[true, true, true, true, true, true, true, true, true, true, true, true, false, false, false, false, false, false] 12 = true) (r12 : (Region.ready .any #[o0, o1, o2, o3, o4, o5, o6, o7, o8, o9, o10, o11, o12, o13, o14, o15, o16, o17] #[true, true, true, true, true, true, true, true, true, true, true, true, false, false, false, false, false, false]).contains 12 = true)
    (q_ : Region.ready .any #[o0, o1, o2, o3, o4, o5, o6, o7, o8, o9, o10, o11, o12, o13, o14, o15, o16, o17] #[true, true, true, true, true, true, true, true, true, true, true, true, true, false, false, false, false, false] = [13])
    (f_13_14 : Region.free .any #[o0, o1, o2, o3, o4, o5, o6, o7, o8, o9, o10, o11, o12, o13, o14, o15, o16, o17] #[true, true, true, true, true, true, true, true, true, true, true, true, true, true, false, false, false, false] 14 = true) (r_13_14 : (Region.ready .any #[o0, o1, o2, o3, o4, o5, o6, o7, o8, o9, o10, o11, o12, o13, o14, o15, o16, o17] #[true, true, true, true, true, true, true, true, true, true, true, true, true, true, false, false, false, false]).contains 14 = true)
    (f_13_15 : Region.free .any #[o0, o1, o2, o3, o4, o5, o6, o7, o8, o9, o10, o11, o12, o13, o14, o15, o16, o17] #[true, true, true, true, true, true, true, true, true, true, true, true, true, true, true, false, false, false] 15 = true) (r_13_15 : (Region.ready .any #[o0, o1, o2, o3, o4, o5, o6, o7, o8, o9, o10, o11, o12, o13, o14, o15, o16, o17] #[true, true, true, true, true, true, true, true, true, true, true, true, true, true, true, false, false, false]).contains 15 = true)
    (f_13_16 : Region.free .any #[o0, o1, o2, o3, o4, o5, o6, o7, o8, o9, o10, o11, o12, o13, o14, o15, o16, o17] #[true, true, true, true, true, true, true, true, true, true, true, true, true, true, true, true, false, false] 16 = true) (r_13_16 : (Region.ready .any #[o0, o1, o2, o3, o4, o5, o6, o7, o8, o9, o10, o11, o12, o13, o14, o15, o16, o17] #[true, true, true, true, true, true, true, true, true, true, true, true, true, true, true, true, false, false]).contains 16 = true)
    (f_13_17 : Region.free .any #[o0, o1, o2, o3, o4, o5, o6, o7, o8, o9, o10, o11, o12, o13, o14, o15, o16, o17] #[true, true, true, true, true, true, true, true, true, true, true, true, true, true, true, true, true, false] 17 = true) (r_13_17 : (Region.ready .any #[o0, o1, o2, o3, o4, o5, o6, o7, o8, o9, o10, o11, o12, o13, o14, o15, o16, o17] #[true, true, true, true, true, true, true, true, true, true, true, true, true, true, true, true, true, false]).contains 17 = true)
    (q13_ : Region.ready .any #[o0, o1, o2, o3, o4, o5, o6, o7, o8, o9, o10, o11, o12, o13, o14, o15, o16, o17] #[true, true, true, true, true, true, true, true, true, true, true, true, true, true, true, true, true, true] = [])
    (g13 : o13.guard = none)
    (v0 v1 v2 v3 v4 v5 v6 v7 v8 v9 v10 v11 v12 : Value) (A0 A1 A2 A3 A4 A5 A6 A7 A8 A9 A10 A11 A12 : Act)
    (S : World → Prop)
    (I_ : World → Prop)
    (I13_ : Value → World → Prop)
    (v14 : Value → Value)
    (v15 : Value → Value)
    (v16 : Value → Value)
    (v17 : Value → Value)
    (p0 : a.put o0.dst v0 = A0) (hy0 : YieldsIf P #[o0, o1, o2, o3, o4, o5, o6, o7, o8, o9, o10, o11, o12, o13, o14, o15, o16, o17] S o0 v0 a)
    (p1 : A0.put o1.dst v1 = A1) (hy1 : YieldsIf P #[o0, o1, o2, o3, o4, o5, o6, o7, o8, o9, o10, o11, o12, o13, o14, o15, o16, o17] S o1 v1 A0)
    (p2 : A1.put o2.dst v2 = A2) (hy2 : YieldsIf P #[o0, o1, o2, o3, o4, o5, o6, o7, o8, o9, o10, o11, o12, o13, o14, o15, o16, o17] S o2 v2 A1)
    (p3 : A2.put o3.dst v3 = A3) (hy3 : YieldsIf P #[o0, o1, o2, o3, o4, o5, o6, o7, o8, o9, o10, o11, o12, o13, o14, o15, o16, o17] S o3 v3 A2)
    (p4 : A3.put o4.dst v4 = A4) (hy4 : YieldsIf P #[o0, o1, o2, o3, o4, o5, o6, o7, o8, o9, o10, o11, o12, o13, o14, o15, o16, o17] S o4 v4 A3)
    (p5 : A4.put o5.dst v5 = A5) (hy5 : YieldsIf P #[o0, o1, o2, o3, o4, o5, o6, o7, o8, o9, o10, o11, o12, o13, o14, o15, o16, o17] S o5 v5 A4)
    (p6 : A5.put o6.dst v6 = A6) (hy6 : YieldsIf P #[o0, o1, o2, o3, o4, o5, o6, o7, o8, o9, o10, o11, o12, o13, o14, o15, o16, o17] S o6 v6 A5)
    (p7 : A6.put o7.dst v7 = A7) (hy7 : YieldsIf P #[o0, o1, o2, o3, o4, o5, o6, o7, o8, o9, o10, o11, o12, o13, o14, o15, o16, o17] S o7 v7 A6)
    (p8 : A7.put o8.dst v8 = A8) (hy8 : YieldsIf P #[o0, o1, o2, o3, o4, o5, o6, o7, o8, o9, o10, o11, o12, o13, o14, o15, o16, o17] S o8 v8 A7)
    (p9 : A8.put o9.dst v9 = A9) (hy9 : YieldsIf P #[o0, o1, o2, o3, o4, o5, o6, o7, o8, o9, o10, o11, o12, o13, o14, o15, o16, o17] S o9 v9 A8)
    (p10 : A9.put o10.dst v10 = A10) (hy10 : YieldsIf P #[o0, o1, o2, o3, o4, o5, o6, o7, o8, o9, o10, o11, o12, o13, o14, o15, o16, o17] S o10 v10 A9)
    (p11 : A10.put o11.dst v11 = A11) (hy11 : YieldsIf P #[o0, o1, o2, o3, o4, o5, o6, o7, o8, o9, o10, o11, o12, o13, o14, o15, o16, o17] S o11 v11 A10)
    (p12 : A11.put o12.dst v12 = A12) (hy12 : YieldsIf P #[o0, o1, o2, o3, o4, o5, o6, o7, o8, o9, o10, o11, o12, o13, o14, o15, o16, o17] S o12 v12 A11)
    (i0 : I_ w.drew)
    (hIS : (∀ w', I_  w' → S w') ∧ (∀ (u13 : Value) w', I13_ u13 w' → S w'))
    (s_13 : ∀ w', I_  w' → ∀ K : Act → World → Prop, (∀ (u13 : Value) w2, I13_ u13 w2 → K (A12.put o13.dst u13) w2) → o13.wp P A12 w' K (NoPanic Q))
    (y_13_14 : ∀ (u13 : Value) w', I13_ u13 w' → YieldsIf P #[o0, o1, o2, o3, o4, o5, o6, o7, o8, o9, o10, o11, o12, o13, o14, o15, o16, o17] S o14 (v14 u13) (A12.put o13.dst u13))
    (y_13_15 : ∀ (u13 : Value) w', I13_ u13 w' → YieldsIf P #[o0, o1, o2, o3, o4, o5, o6, o7, o8, o9, o10, o11, o12, o13, o14, o15, o16, o17] S o15 (v15 u13) ((A12.put o13.dst u13).put o14.dst (v14 u13)))
    (y_13_16 : ∀ (u13 : Value) w', I13_ u13 w' → YieldsIf P #[o0, o1, o2, o3, o4, o5, o6, o7, o8, o9, o10, o11, o12, o13, o14, o15, o16, o17] S o16 (v16 u13) (((A12.put o13.dst u13).put o14.dst (v14 u13)).put o15.dst (v15 u13)))
    (y_13_17 : ∀ (u13 : Value) w', I13_ u13 w' → YieldsIf P #[o0, o1, o2, o3, o4, o5, o6, o7, o8, o9, o10, o11, o12, o13, o14, o15, o16, o17] S o17 (v17 u13) ((((A12.put o13.dst u13).put o14.dst (v14 u13)).put o15.dst (v15 u13)).put o16.dst (v16 u13)))
    (h : ∀ (u13 : Value) w', I13_ u13 w' → Q .normal (((((A12.put o13.dst u13).put o14.dst (v14 u13)).put o15.dst (v15 u13)).put o16.dst (v16 u13)).put o17.dst (v17 u13)) w') :
    (Code.region id #[o0, o1, o2, o3, o4, o5, o6, o7, o8, o9, o10, o11, o12, o13, o14, o15, o16, o17] true).wp P Q a w := by
  subst p0 p1 p2 p3 p4 p5 p6 p7 p8 p9 p10 p11 p12
  obtain ⟨z_, z13_⟩ := hIS
  refine wp_region_noPanic ?_
  refine wp_region_held_drew (S := S) hm (z_ _ i0) (fun hH => ?_)
  show wpAnyH P .any #[o0, o1, o2, o3, o4, o5, o6, o7, o8, o9, o10, o11, o12, o13, o14, o15, o16, o17] (NoPanic Q) S 18 #[false, false, false, false, false, false, false, false, false, false, false, false, false, false, false, false, false, false] a w.drew
  refine wpAnyH_take (i := 0) (oi := o0) rfl hs f0 r0 (fun _ _ _ h => h) hy0 hH ?_
  refine wpAnyH_take (i := 1) (oi := o1) rfl hs f1 r1 (fun _ _ _ h => h) hy1 hH ?_
  refine wpAnyH_take (i := 2) (oi := o2) rfl hs f2 r2 (fun _ _ _ h => h) hy2 hH ?_
  refine wpAnyH_take (i := 3) (oi := o3) rfl hs f3 r3 (fun _ _ _ h => h) hy3 hH ?_
  refine wpAnyH_take (i := 4) (oi := o4) rfl hs f4 r4 (fun _ _ _ h => h) hy4 hH ?_
  refine wpAnyH_take (i := 5) (oi := o5) rfl hs f5 r5 (fun _ _ _ h => h) hy5 hH ?_
  refine wpAnyH_take (i := 6) (oi := o6) rfl hs f6 r6 (fun _ _ _ h => h) hy6 hH ?_
  refine wpAnyH_take (i := 7) (oi := o7) rfl hs f7 r7 (fun _ _ _ h => h) hy7 hH ?_
  refine wpAnyH_take (i := 8) (oi := o8) rfl hs f8 r8 (fun _ _ _ h => h) hy8 hH ?_
  refine wpAnyH_take (i := 9) (oi := o9) rfl hs f9 r9 (fun _ _ _ h => h) hy9 hH ?_
  refine wpAnyH_take (i := 10) (oi := o10) rfl hs f10 r10 (fun _ _ _ h => h) hy10 hH ?_
  refine wpAnyH_take (i := 11) (oi := o11) rfl hs f11 r11 (fun _ _ _ h => h) hy11 hH ?_
  refine wpAnyH_take (i := 12) (oi := o12) rfl hs f12 r12 (fun _ _ _ h => h) hy12 hH ?_
  generalize (((((((((((((a.put o0.dst v0).put o1.dst v1).put o2.dst v2).put o3.dst v3).put o4.dst v4).put o5.dst v5).put o6.dst v6).put o7.dst v7).put o8.dst v8).put o9.dst v9).put o10.dst v10).put o11.dst v11).put o12.dst v12) = B at *
  have wa13 : ∀ y, Region.wanted o13 y = true := fun y => by unfold Region.wanted; rw [g13]
  have t13_ : ∀ (u13 : Value) w', I13_ u13 w' → wpAnyH P .any #[o0, o1, o2, o3, o4, o5, o6, o7, o8, o9, o10, o11, o12, o13, o14, o15, o16, o17] (NoPanic Q) S 0 #[true, true, true, true, true, true, true, true, true, true, true, true, true, true, true, true, true, true] (((((B.put o13.dst u13).put o14.dst (v14 u13)).put o15.dst (v15 u13)).put o16.dst (v16 u13)).put o17.dst (v17 u13)) w' := by
    intro u13 w0 i0
    exact ⟨q13_, NoPanic.normal (h u13 w0 i0)⟩
  have t_ : ∀ w', I_  w' → wpAnyH P .any #[o0, o1, o2, o3, o4, o5, o6, o7, o8, o9, o10, o11, o12, o13, o14, o15, o16, o17] (NoPanic Q) S 5 #[true, true, true, true, true, true, true, true, true, true, true, true, true, false, false, false, false, false] B w' := by
    intro w0 i0
    refine wpAnyH_ready (rs := [13]) q_ (by simp) (AllReadyH.cons (o := o13) rfl (fun K hK => ?_) AllReadyH.nil)
    · rw [if_pos (wa13 _)]
      refine s_13  w0 i0 K (fun u13 w1 i1 => hK.out _ _ (z13_ u13 w1 i1) (fun _ => ?_))
      clear hK
      refine wpAnyH_take (i := 14) (oi := o14) rfl hs f_13_14 r_13_14 (fun _ _ _ h => h) (y_13_14 u13 w1 i1) (z13_ u13 w1 i1) ?_
      refine wpAnyH_take (i := 15) (oi := o15) rfl hs f_13_15 r_13_15 (fun _ _ _ h => h) (y_13_15 u13 w1 i1) (z13_ u13 w1 i1) ?_
      refine wpAnyH_take (i := 16) (oi := o16) rfl hs f_13_16 r_13_16 (fun _ _ _ h => h) (y_13_16 u13 w1 i1) (z13_ u13 w1 i1) ?_
      refine wpAnyH_take (i := 17) (oi := o17) rfl hs f_13_17 r_13_17 (fun _ _ _ h => h) (y_13_17 u13 w1 i1) (z13_ u13 w1 i1) ?_
      exact t13_ u13 w1 i1
  exact t_ w.drew i0

theorem wp_in15 {id : Nat} {o0 o1 o2 o3 o4 o5 o6 o7 o8 o9 o10 o11 o12 o13 o14 : Oper} {a : Act} {w : World} (hm : P.follows .mixedOrders = true) (hs : Region.noSelect #[o0, o1, o2, o3, o4, o5, o6, o7, o8, o9, o10, o11, o12, o13, o14] = true)
    (f1 : Region.free .any #[o0, o1, o2, o3, o4, o5, o6, o7, o8, o9, o10, o11, o12, o13, o14] #[false, false, false, false, false, false, false, false, false, false, false, false, false, false, false] 1 = true) (r1 : (Region.ready .any #[o0, o1, o2, o3, o4, o5, o6, o7, o8, o9, o10, o11, o12, o13, o14] #[false, false, false, false, false, false, false, false, false, false, false, false, false, false, false]).contains 1 = true)
    (f2 : Region.free .any #[o0, o1, o2, o3, o4, o5, o6, o7, o8, o9, o10, o11, o12, o13, o14] #[false, true, false, false, false, false, false, false, false, false, false, false, false, false, false] 2 = true) (r2 : (Region.ready .any #[o0, o1, o2, o3, o4, o5, o6, o7, o8, o9, o10, o11, o12, o13, o14] #[false, true, false, false, false, false, false, false, false, false, false, false, false, false, false]).contains 2 = true)
    (f3 : Region.free .any #[o0, o1, o2, o3, o4, o5, o6, o7, o8, o9, o10, o11, o12, o13, o14] #[false, true, true, false, false, false, false, false, false, false, false, false, false, false, false] 3 = true) (r3 : (Region.ready .any #[o0, o1, o2, o3, o4, o5, o6, o7, o8, o9, o10, o11, o12, o13, o14] #[false, true, true, false, false, false, false, false, false, false, false, false, false, false, false]).contains 3 = true)
    (f4 : Region.free .any #[o0, o1, o2, o3, o4, o5, o6, o7, o8, o9, o10, o11, o12, o13, o14] #[false, true, true, true, false, false, false, false, false, false, false, false, false, false, false] 4 = true) (r4 : (Region.ready .any #[o0, o1, o2, o3, o4, o5, o6, o7, o8, o9, o10, o11, o12, o13, o14] #[false, true, true, true, false, false, false, false, false, false, false, false, false, false, false]).contains 4 = true)
    (f6 : Region.free .any #[o0, o1, o2, o3, o4, o5, o6, o7, o8, o9, o10, o11, o12, o13, o14] #[false, true, true, true, true, false, false, false, false, false, false, false, false, false, false] 6 = true) (r6 : (Region.ready .any #[o0, o1, o2, o3, o4, o5, o6, o7, o8, o9, o10, o11, o12, o13, o14] #[false, true, true, true, true, false, false, false, false, false, false, false, false, false, false]).contains 6 = true)
    (f9 : Region.free .any #[o0, o1, o2, o3, o4, o5, o6, o7, o8, o9, o10, o11, o12, o13, o14] #[false, true, true, true, true, false, true, false, false, false, false, false, false, false, false] 9 = true) (r9 : (Region.ready .any #[o0, o1, o2, o3, o4, o5, o6, o7, o8, o9, o10, o11, o12, o13, o14] #[false, true, true, true, true, false, true, false, false, false, false, false, false, false, false]).contains 9 = true)
    (f10 : Region.free .any #[o0, o1, o2, o3, o4, o5, o6, o7, o8, o9, o10, o11, o12, o13, o14] #[false, true, true, true, true, false, true, false, false, true, false, false, false, false, false] 10 = true) (r10 : (Region.ready .any #[o0, o1, o2, o3, o4, o5, o6, o7, o8, o9, o10, o11, o12, o13, o14] #[false, true, true, true, true, false, true, false, false, true, false, false, false, false, false]).contains 10 = true)
    (f11 : Region.free .any #[o0, o1, o2, o3, o4, o5, o6, o7, o8, o9, o10, o11, o12, o13, o14] #[false, true, true, true, true, false, true, false, false, true, true, false, false, false, false] 11 = true) (r11 : (Region.ready .any #[o0, o1, o2, o3, o4, o5, o6, o7, o8, o9, o10, o11, o12, o13, o14] #[false, true, true, true, true, false, true, false, false, true, true, false, false, false, false]).contains 11 = true)
    (f12 : Region.free .any #[o0, o1, o2, o3, o4, o5, o6, o7, o8, o9, o10, o11, o12, o13, o14] #[false, true, true, true, true, false, true, false, false, true, true, true, false, false, false] 12 = true) (r12 : (Region.ready .any #[o0, o1, o2, o3, o4, o5, o6, o7, o8, o9, o10, o11, o12, o13, o14] #[false, true, true, true, true, false, true, false, false, true, true, true, false, false, false]).contains 12 = true)
    (q_ : Region.ready .any #[o0, o1, o2, o3, o4, o5, o6, o7, o8, o9, o10, o11, o12, o13, o14] #[false, true, true, true, true, false, true, false, false, true, true, true, true, false, false] = [0, 7])
    (q0_ : Region.ready .any #[o0, o1, o2, o3, o4, o5, o6, o7, o8, o9, o10, o11, o12, o13, o14] #[true, true, true, true, true, false, true, false, false, true, true, true, true, false, false] = [5, 7])
    (q7_ : Region.ready .any #[o0, o1, o2, o3, o4, o5, o6, o7, o8, o9, o10, o11, o12, o13, o14] #[false, true, true, true, true, false, true, true, false, true, true, true, true, false, false] = [0])
    (q0_5_ : Region.ready .any #[o0, o1, o2, o3, o4, o5, o6, o7, o8, o9, o10, o11, o12, o13, o14] #[true, true, true, true, true, true, true, false, false, true, true, true, true, false, false] = [7])
    (q0_7_ : Region.ready .any #[o0, o1, o2, o3, o4, o5, o6, o7, o8, o9, o10, o11, o12, o13, o14] #[true, true, true, true, true, false, true, true, false, true, true, true, true, false, false] = [5])
    (q0_5_7_ : Region.ready .any #[o0, o1, o2, o3, o4, o5, o6, o7, o8, o9, o10, o11, o12, o13, o14] #[true, true, true, true, true, true, true, true, false, true, true, true, true, false, false] = [8])
    (q0_5_7_8_ : Region.ready .any #[o0, o1, o2, o3, o4, o5, o6, o7, o8, o9, o10, o11, o12, o13, o14] #[true, true, true, true, true, true, true, true, true, true, true, true, true, false, false] = [13])
    (f0_5_7_8_13_14 : Region.free .any #[o0, o1, o2, o3, o4, o5, o6, o7, o8, o9, o10, o11, o12, o13, o14] #[true, true, true, true, true, true, true, true, true, true, true, true, true, true, false] 14 = true) (r0_5_7_8_13_14 : (Region.ready .any #[o0, o1, o2, o3, o4, o5, o6, o7, o8, o9, o10, o11, o12, o13, o14] #[true, true, true, true, true, true, true, true, true, true, true, true, true, true, false]).contains 14 = true)
    (q0_5_7_8_13_ : Region.ready .any #[o0, o1, o2, o3, o4, o5, o6, o7, o8, o9, o10, o11, o12, o13, o14] #[true, true, true, true, true, true, true, true, true, true, true, true, true, true, true] = [])
    (g0 : o0.guard = none)    (g5 : o5.guard = none)    (g7 : o7.guard = none)    (g8 : o8.guard = none)    (g13 : o13.guard = none)
    (ne7_0 : ∀ d, o7.dst = some d → o0.dst ≠ some d)
    (ne7_5 : ∀ d, o7.dst = some d → o5.dst ≠ some d)
    (v1 v2 v3 v4 v6 v9 v10 v11 v12 : Value) (A0 A1 A2 A3 A4 A5 A6 A7 A8 : Act)
    (S : World → Prop)
    (I_ : World → Prop)
    (I0_ : Value → World → Prop)
    (I7_ : Value → World → Prop)
    (I0_5_ : Value → Value → World → Prop)
    (I0_7_ : Value → Value → World → Prop)
    (I0_5_7_ : Value → Value → Value → World → Prop)
    (I0_5_7_8_ : Value → Value → Value → Value → World → Prop)
    (I0_5_7_8_13_ : Value → Value → Value → Value → Value → World → Prop)
    (v14 : Value → Value)
    (p1 : a.put o1.dst v1 = A0) (hy1 : YieldsIf P #[o0, o1, o2, o3, o4, o5, o6, o7, o8, o9, o10, o11, o12, o13, o14] S o1 v1 a)
    (p2 : A0.put o2.dst v2 = A1) (hy2 : YieldsIf P #[o0, o1, o2, o3, o4, o5, o6, o7, o8, o9, o10, o11, o12, o13, o14] S o2 v2 A0)
    (p3 : A1.put o3.dst v3 = A2) (hy3 : YieldsIf P #[o0, o1, o2, o3, o4, o5, o6, o7, o8, o9, o10, o11, o12, o13, o14] S o3 v3 A1)
    (p4 : A2.put o4.dst v4 = A3) (hy4 : YieldsIf P #[o0, o1, o2, o3, o4, o5, o6, o7, o8, o9, o10, o11, o12, o13, o14] S o4 v4 A2)
    (p6 : A3.put o6.dst v6 = A4) (hy6 : YieldsIf P #[o0, o1, o2, o3, o4, o5, o6, o7, o8, o9, o10, o11, o12, o13, o14] S o6 v6 A3)
    (p9 : A4.put o9.dst v9 = A5) (hy9 : YieldsIf P #[o0, o1, o2, o3, o4, o5, o6, o7, o8, o9, o10, o11, o12, o13, o14] S o9 v9 A4)
    (p10 : A5.put o10.dst v10 = A6) (hy10 : YieldsIf P #[o0, o1, o2, o3, o4, o5, o6, o7, o8, o9, o10, o11, o12, o13, o14] S o10 v10 A5)
    (p11 : A6.put o11.dst v11 = A7) (hy11 : YieldsIf P #[o0, o1, o2, o3, o4, o5, o6, o7, o8, o9, o10, o11, o12, o13, o14] S o11 v11 A6)
    (p12 : A7.put o12.dst v12 = A8) (hy12 : YieldsIf P #[o0, o1, o2, o3, o4, o5, o6, o7, o8, o9, o10, o11, o12, o13, o14] S o12 v12 A7)
    (i0 : I_ w.drew)
    (hIS : (∀ w', I_  w' → S w') ∧ (∀ (u0 : Value) w', I0_ u0 w' → S w') ∧ (∀ (u7 : Value) w', I7_ u7 w' → S w') ∧ (∀ (u0 u5 : Value) w', I0_5_ u0 u5 w' → S w') ∧ (∀ (u0 u7 : Value) w', I0_7_ u0 u7 w' → S w') ∧ (∀ (u0 u5 u7 : Value) w', I0_5_7_ u0 u5 u7 w' → S w') ∧ (∀ (u0 u5 u7 u8 : Value) w', I0_5_7_8_ u0 u5 u7 u8 w' → S w') ∧ (∀ (u0 u5 u7 u8 u13 : Value) w', I0_5_7_8_13_ u0 u5 u7 u8 u13 w' → S w'))
    (s_0 : ∀ w', I_  w' → ∀ K : Act → World → Prop, (∀ (u0 : Value) w2, I0_ u0 w2 → K (A8.put o0.dst u0) w2) → o0.wp P A8 w' K (NoPanic Q))
    (s_7 : ∀ w', I_  w' → ∀ K : Act → World → Prop, (∀ (u7 : Value) w2, I7_ u7 w2 → K (A8.put o7.dst u7) w2) → o7.wp P A8 w' K (NoPanic Q))
    (s0_5 : ∀ (u0 : Value) w', I0_ u0 w' → ∀ K : Act → World → Prop, (∀ (u5 : Value) w2, I0_5_ u0 u5 w2 → K ((A8.put o0.dst u0).put o5.dst u5) w2) → o5.wp P (A8.put o0.dst u0) w' K (NoPanic Q))
    (s0_7 : ∀ (u0 : Value) w', I0_ u0 w' → ∀ K : Act → World → Prop, (∀ (u7 : Value) w2, I0_7_ u0 u7 w2 → K ((A8.put o0.dst u0).put o7.dst u7) w2) → o7.wp P (A8.put o0.dst u0) w' K (NoPanic Q))
    (s7_0 : ∀ (u7 : Value) w', I7_ u7 w' → ∀ K : Act → World → Prop, (∀ (u0 : Value) w2, I0_7_ u0 u7 w2 → K ((A8.put o7.dst u7).put o0.dst u0) w2) → o0.wp P (A8.put o7.dst u7) w' K (NoPanic Q))
    (s0_5_7 : ∀ (u0 u5 : Value) w', I0_5_ u0 u5 w' → ∀ K : Act → World → Prop, (∀ (u7 : Value) w2, I0_5_7_ u0 u5 u7 w2 → K (((A8.put o0.dst u0).put o5.dst u5).put o7.dst u7) w2) → o7.wp P ((A8.put o0.dst u0).put o5.dst u5) w' K (NoPanic Q))
    (s0_7_5 : ∀ (u0 u7 : Value) w', I0_7_ u0 u7 w' → ∀ K : Act → World → Prop, (∀ (u5 : Value) w2, I0_5_7_ u0 u5 u7 w2 → K (((A8.put o0.dst u0).put o7.dst u7).put o5.dst u5) w2) → o5.wp P ((A8.put o0.dst u0).put o7.dst u7) w' K (NoPanic Q))
    (s0_5_7_8 : ∀ (u0 u5 u7 : Value) w', I0_5_7_ u0 u5 u7 w' → ∀ K : Act → World → Prop, (∀ (u8 : Value) w2, I0_5_7_8_ u0 u5 u7 u8 w2 → K ((((A8.put o0.dst u0).put o5.dst u5).put o7.dst u7).put o8.dst u8) w2) → o8.wp P (((A8.put o0.dst u0).put o5.dst u5).put o7.dst u7) w' K (NoPanic Q))
    (s0_5_7_8_13 : ∀ (u0 u5 u7 u8 : Value) w', I0_5_7_8_ u0 u5 u7 u8 w' → ∀ K : Act → World → Prop, (∀ (u13 : Value) w2, I0_5_7_8_13_ u0 u5 u7 u8 u13 w2 → K (((((A8.put o0.dst u0).put o5.dst u5).put o7.dst u7).put o8.dst u8).put o13.dst u13) w2) → o13.wp P ((((A8.put o0.dst u0).put o5.dst u5).put o7.dst u7).put o8.dst u8) w' K (NoPanic Q))
    (y0_5_7_8_13_14 : ∀ (u0 u5 u7 u8 u13 : Value) w', I0_5_7_8_13_ u0 u5 u7 u8 u13 w' → YieldsIf P #[o0, o1, o2, o3, o4, o5, o6, o7, o8, o9, o10, o11, o12, o13, o14] S o14 (v14 u13) (((((A8.put o0.dst u0).put o5.dst u5).put o7.dst u7).put o8.dst u8).put o13.dst u13))
    (h : ∀ (u0 u5 u7 u8 u13 : Value) w', I0_5_7_8_13_ u0 u5 u7 u8 u13 w' → Q .normal ((((((A8.put o0.dst u0).put o5.dst u5).put o7.dst u7).put o8.dst u8).put o13.dst u13).put o14.dst (v14 u13)) w') :
    (Code.region id #[o0, o1, o2, o3, o4, o5, o6, o7, o8, o9, o10, o11, o12, o13, o14] true).wp P Q a w := by
  subst p1 p2 p3 p4 p6 p9 p10 p11 p12
  obtain ⟨z_, z0_, z7_, z0_5_, z0_7_, z0_5_7_, z0_5_7_8_, z0_5_7_8_13_⟩ := hIS
  refine wp_region_noPanic ?_
  refine wp_region_held_drew (S := S) hm (z_ _ i0) (fun hH => ?_)
  show wpAnyH P .any #[o0, o1, o2, o3, o4, o5, o6, o7, o8, o9, o10, o11, o12, o13, o14] (NoPanic Q) S 15 #[false, false, false, false, false, false, false, false, false, false, false, false, false, false, false] a w.drew
  refine wpAnyH_take (i := 1) (oi := o1) rfl hs f1 r1 (fun _ _ _ h => h) hy1 hH ?_
  refine wpAnyH_take (i := 2) (oi := o2) rfl hs f2 r2 (fun _ _ _ h => h) hy2 hH ?_
  refine wpAnyH_take (i := 3) (oi := o3) rfl hs f3 r3 (fun _ _ _ h => h) hy3 hH ?_
  refine wpAnyH_take (i := 4) (oi := o4) rfl hs f4 r4 (fun _ _ _ h => h) hy4 hH ?_
  refine wpAnyH_take (i := 6) (oi := o6) rfl hs f6 r6 (fun _ _ _ h => h) hy6 hH ?_
  refine wpAnyH_take (i := 9) (oi := o9) rfl hs f9 r9 (fun _ _ _ h => h) hy9 hH ?_
  refine wpAnyH_take (i := 10) (oi := o10) rfl hs f10 r10 (fun _ _ _ h => h) hy10 hH ?_
  refine wpAnyH_take (i := 11) (oi := o11) rfl hs f11 r11 (fun _ _ _ h => h) hy11 hH ?_
  refine wpAnyH_take (i := 12) (oi := o12) rfl hs f12 r12 (fun _ _ _ h => h) hy12 hH ?_
  generalize (((((((((a.put o1.dst v1).put o2.dst v2).put o3.dst v3).put o4.dst v4).put o6.dst v6).put o9.dst v9).put o10.dst v10).put o11.dst v11).put o12.dst v12) = B at *
  have wa0 : ∀ y, Region.wanted o0 y = true := fun y => by unfold Region.wanted; rw [g0]
  have wa5 : ∀ y, Region.wanted o5 y = true := fun y => by unfold Region.wanted; rw [g5]
  have wa7 : ∀ y, Region.wanted o7 y = true := fun y => by unfold Region.wanted; rw [g7]
  have wa8 : ∀ y, Region.wanted o8 y = true := fun y => by unfold Region.wanted; rw [g8]
  have wa13 : ∀ y, Region.wanted o13 y = true := fun y => by unfold Region.wanted; rw [g13]
  have t0_5_7_8_13_ : ∀ (u0 u5 u7 u8 u13 : Value) w', I0_5_7_8_13_ u0 u5 u7 u8 u13 w' → wpAnyH P .any #[o0, o1, o2, o3, o4, o5, o6, o7, o8, o9, o10, o11, o12, o13, o14] (NoPanic Q) S 0 #[true, true, true, true, true, true, true, true, true, true, true, true, true, true, true] ((((((B.put o0.dst u0).put o5.dst u5).put o7.dst u7).put o8.dst u8).put o13.dst u13).put o14.dst (v14 u13)) w' := by
    intro u0 u5 u7 u8 u13 w0 i0
    exact ⟨q0_5_7_8_13_, NoPanic.normal (h u0 u5 u7 u8 u13 w0 i0)⟩
  have t0_5_7_8_ : ∀ (u0 u5 u7 u8 : Value) w', I0_5_7_8_ u0 u5 u7 u8 w' → wpAnyH P .any #[o0, o1, o2, o3, o4, o5, o6, o7, o8, o9, o10, o11, o12, o13, o14] (NoPanic Q) S 2 #[true, true, true, true, true, true, true, true, true, true, true, true, true, false, false] ((((B.put o0.dst u0).put o5.dst u5).put o7.dst u7).put o8.dst u8) w' := by
    intro u0 u5 u7 u8 w0 i0
    refine wpAnyH_ready (rs := [13]) q0_5_7_8_ (by simp) (AllReadyH.cons (o := o13) rfl (fun K hK => ?_) AllReadyH.nil)
    · rw [if_pos (wa13 _)]
      refine s0_5_7_8_13 u0 u5 u7 u8 w0 i0 K (fun u13 w1 i1 => hK.out _ _ (z0_5_7_8_13_ u0 u5 u7 u8 u13 w1 i1) (fun _ => ?_))
      clear hK
      refine wpAnyH_take (i := 14) (oi := o14) rfl hs f0_5_7_8_13_14 r0_5_7_8_13_14 (fun _ _ _ h => h) (y0_5_7_8_13_14 u0 u5 u7 u8 u13 w1 i1) (z0_5_7_8_13_ u0 u5 u7 u8 u13 w1 i1) ?_
      exact t0_5_7_8_13_ u0 u5 u7 u8 u13 w1 i1
  have t0_5_7_ : ∀ (u0 u5 u7 : Value) w', I0_5_7_ u0 u5 u7 w' → wpAnyH P .any #[o0, o1, o2, o3, o4, o5, o6, o7, o8, o9, o10, o11, o12, o13, o14] (NoPanic Q) S 3 #[true, true, true, true, true, true, true, true, false, true, true, true, true, false, false] (((B.put o0.dst u0).put o5.dst u5).put o7.dst u7) w' := by
    intro u0 u5 u7 w0 i0
    refine wpAnyH_ready (rs := [8]) q0_5_7_ (by simp) (AllReadyH.cons (o := o8) rfl (fun K hK => ?_) AllReadyH.nil)
    · rw [if_pos (wa8 _)]
      refine s0_5_7_8 u0 u5 u7 w0 i0 K (fun u8 w1 i1 => hK.out _ _ (z0_5_7_8_ u0 u5 u7 u8 w1 i1) (fun _ => ?_))
      clear hK
      exact t0_5_7_8_ u0 u5 u7 u8 w1 i1
  have t0_7_ : ∀ (u0 u7 : Value) w', I0_7_ u0 u7 w' → wpAnyH P .any #[o0, o1, o2, o3, o4, o5, o6, o7, o8, o9, o10, o11, o12, o13, o14] (NoPanic Q) S 4 #[true, true, true, true, true, false, true, true, false, true, true, true, true, false, false] ((B.put o0.dst u0).put o7.dst u7) w' := by
    intro u0 u7 w0 i0
    refine wpAnyH_ready (rs := [5]) q0_7_ (by simp) (AllReadyH.cons (o := o5) rfl (fun K hK => ?_) AllReadyH.nil)
    · rw [if_pos (wa5 _)]
      refine s0_7_5 u0 u7 w0 i0 K (fun u5 w1 i1 => hK.out _ _ (z0_5_7_ u0 u5 u7 w1 i1) (fun _ => ?_))
      clear hK
      rw [Act.put_comm _ _ _ ne7_5]
      exact t0_5_7_ u0 u5 u7 w1 i1
  have t0_5_ : ∀ (u0 u5 : Value) w', I0_5_ u0 u5 w' → wpAnyH P .any #[o0, o1, o2, o3, o4, o5, o6, o7, o8, o9, o10, o11, o12, o13, o14] (NoPanic Q) S 4 #[true, true, true, true, true, true, true, false, false, true, true, true, true, false, false] ((B.put o0.dst u0).put o5.dst u5) w' := by
    intro u0 u5 w0 i0
    refine wpAnyH_ready (rs := [7]) q0_5_ (by simp) (AllReadyH.cons (o := o7) rfl (fun K hK => ?_) AllReadyH.nil)
    · rw [if_pos (wa7 _)]
      refine s0_5_7 u0 u5 w0 i0 K (fun u7 w1 i1 => hK.out _ _ (z0_5_7_ u0 u5 u7 w1 i1) (fun _ => ?_))
      clear hK
      exact t0_5_7_ u0 u5 u7 w1 i1
  have t7_ : ∀ (u7 : Value) w', I7_ u7 w' → wpAnyH P .any #[o0, o1, o2, o3, o4, o5, o6, o7, o8, o9, o10, o11, o12, o13, o14] (NoPanic Q) S 5 #[false, true, true, true, true, false, true, true, false, true, true, true, true, false, false] (B.put o7.dst u7) w' := by
    intro u7 w0 i0
    refine wpAnyH_ready (rs := [0]) q7_ (by simp) (AllReadyH.cons (o := o0) rfl (fun K hK => ?_) AllReadyH.nil)
    · rw [if_pos (wa0 _)]
      refine s7_0 u7 w0 i0 K (fun u0 w1 i1 => hK.out _ _ (z0_7_ u0 u7 w1 i1) (fun _ => ?_))
      clear hK
      rw [Act.put_comm _ _ _ ne7_0]
      exact t0_7_ u0 u7 w1 i1
  have t0_ : ∀ (u0 : Value) w', I0_ u0 w' → wpAnyH P .any #[o0, o1, o2, o3, o4, o5, o6, o7, o8, o9, o10, o11, o12, o13, o14] (NoPanic Q) S 5 #[true, true, true, true, true, false, true, false, false, true, true, true, true, false, false] (B.put o0.dst u0) w' := by
    intro u0 w0 i0
    refine wpAnyH_ready (rs := [5, 7]) q0_ (by simp) (AllReadyH.cons (o := o5) rfl (fun K hK => ?_) (AllReadyH.cons (o := o7) rfl (fun K hK => ?_) AllReadyH.nil))
    · rw [if_pos (wa5 _)]
      refine s0_5 u0 w0 i0 K (fun u5 w1 i1 => hK.out _ _ (z0_5_ u0 u5 w1 i1) (fun _ => ?_))
      clear hK
      exact t0_5_ u0 u5 w1 i1
    · rw [if_pos (wa7 _)]
      refine s0_7 u0 w0 i0 K (fun u7 w1 i1 => hK.out _ _ (z0_7_ u0 u7 w1 i1) (fun _ => ?_))
      clear hK
      exact t0_7_ u0 u7 w1 i1
  have t_ : ∀ w', I_  w' → wpAnyH P .any #[o0, o1, o2, o3, o4, o5, o6, o7, o8, o9, o10, o11, o12, o13, o14] (NoPanic Q) S 6 #[false, true, true, true, true, false, true, false, false, true, true, true, true, false, false] B w' := by
    intro w0 i0
    refine wpAnyH_ready (rs := [0, 7]) q_ (by simp) (AllReadyH.cons (o := o0) rfl (fun K hK => ?_) (AllReadyH.cons (o := o7) rfl (fun K hK => ?_) AllReadyH.nil))
    · rw [if_pos (wa0 _)]
      refine s_0  w0 i0 K (fun u0 w1 i1 => hK.out _ _ (z0_ u0 w1 i1) (fun _ => ?_))
      clear hK
      exact t0_ u0 w1 i1
    · rw [if_pos (wa7 _)]
      refine s_7  w0 i0 K (fun u7 w1 i1 => hK.out _ _ (z7_ u7 w1 i1) (fun _ => ?_))
      clear hK
      exact t7_ u7 w1 i1
  exact t_ w.drew i0

end
end Go.Proofs.YtjafmnemobcipaaDoor
namespace Go.Proofs.YtjafmnemobcipaaDoor
open Go.RowKit Go.BigFrame
set_option linter.unusedVariables false
set_option linter.unusedSimpArgs false

set_option maxRecDepth 100000 in
set_option maxHeartbeats 4000000 in
theorem inputs_any (z : Int) (kv : Value) (key : List Nat) (sv pv : Value) (ss : List (Nat × List (List Nat))) (ps : List (List Nat × List Nat)) (w : World) (hP : Pth z (keyS z key) ss ps) (hkl : key.length ≤ 64) (hk : Rd w kv key) (hs : RdS w sv ss) (hp : RdK w pv ps) (hT : Tabs w) (hpb : (pairB ps).length ≤ 1000000000000) :
    Calls Tryd.prog 9 #[.int .i64 z, kv, .agg #[sv, pv]] w fun e w' => (∃ v', e = .returned v' ∧ RdL w' v' (inpA z key ss ps)) ∧ Kept [] w w' := by
  have hzw := width_le hP.w
  obtain ⟨sa, sn, sc, vs0, rfl, hsn, _⟩ := id hs
  obtain ⟨pa, pn, pc, _, _, rfl, hpn, _⟩ := id hp
  obtain ⟨ka, kn, kc, rfl, hkn, _⟩ := id hk
  have hsl := hP.len
  have HP := hide hp
  have HS := hide hs
  have HT := hide hT
  have HKY := hide hk
  have HPT := hide hP
  have HSN := hide hsn
  have HPN := hide hpn
  have hsm : sn ≤ 64 := by omega
  clear hp hs hT hk hP hkn hsl
  have HK0 := hide ((Kept.refl [] w).alloc (.cells #[.slice sa sn sc, .slice pa pn pc] 26))
  have HG0 := hide (heap_alloc_new w (.cells #[.slice sa sn sc, .slice pa pn pc] 26))
  obtain ⟨W, hW⟩ : ∃ W, w.alloc (.cells #[.slice sa sn sc, .slice pa pn pc] 26) = W := ⟨_, rfl⟩
  rw [hW] at HK0 HG0
  have c0 : W.cell? ⟨w.heap.size, 0, none⟩ = some (.slice sa sn sc) := cell_of_row W w.heap.size 0 _ _ _ (unhide HG0)
  have c1 : W.cell? ⟨w.heap.size, 1, none⟩ = some (.slice pa pn pc) := cell_of_row W w.heap.size 1 _ _ _ (unhide HG0)
  have hWs : W.heap.size = w.heap.size + 1 := by rw [← hW]; simp
  go_enter Tryd.func9, Tryd.ntmps9
  obtain hpn | ⟨hpn, hls⟩ | ⟨hpn, hls⟩ : 0 < pn ∨ (¬ 0 < pn ∧ sn = 0) ∨ (¬ 0 < pn ∧ ¬ sn = 0) := by omega
  case' inl =>
    have hpn' : decide (0 < pn) = true := by simp; omega
    have HL := hide (by unfold lowB; rw [if_pos (by rw [unhide HPN]; exact hpn)] : lowB z ss ps = buckB ps)
    have HF := hide (by unfold footN; rw [if_pos (by rw [unhide HPN]; exact hpn)]; exact unhide HSN : footN ss ps = sn)
    go_wp2_with (first | (rw [hW]))
    clear hW
    refine Calls.mono (bucketInput_any _ ps W ((unhide HP).old (unhide HK0)) hpb) ?_
    rintro e w1 ⟨v1, rfl, n1, k1⟩
    obtain ⟨LOW, hLOW⟩ : ∃ LOW, buckB ps = LOW := ⟨_, rfl⟩
    rw [hLOW] at HL n1
    obtain ⟨J, hJ⟩ : ∃ J : Nat, sn = J := ⟨_, rfl⟩
    have hJl : J ≤ sn := by omega
    have HATJ := hide (by rw [hJ] : (sn : Int) - 1 = (J : Int) - 1)
    rw [hJ] at HF
    have HN1 := hide n1
    have HK1 := hide ((unhide HK0).trans k1 (by simp))
    have HG1 := hide (k1.heap (unhide HG0) (by simp))
    obtain ⟨la, ln, lc, rfl, h9⟩ := id n1.1
    have hw1 : w.heap.size + 1 ≤ w1.heap.size := by have := k1.size; omega
    clear hLOW hJ n1 k1 h9 c0 c1
    go_wp2_with (at_builtin; refine wpList_pushV rfl _ _ rfl rfl (w1.alloc (.cells #[.slice la ln lc] 22)) (w.heap.size + 1) (.slice none 0 0) [] (.slice la ln lc) w1.heap.size (World.ownsRow_nil _ _ _ _) (heap_alloc_new _ _) rfl (by simp) (by simp; omega) rfl rfl ?_; intro g0 cap0 w3 HO3 HG3 HH3)
    have HOV := hide ((OwnV.start (w.heap.size + 1) (w1.alloc (.cells #[.slice la ln lc] 22))).push (bs := LOW) (x := .slice la ln lc) ((unhide HN1).1.old ((Kept.refl [] w1).alloc _) (by simp)) (fun b hb => ⟨by simp [Value.ownBlock], by have h9 := (newB_eblk (unhide HN1) b hb).2; simp; omega⟩) rfl (unhide HO3) (unhide HG3) (unhide HH3))
    have HK3 := hide (((unhide HK1).alloc (.cells #[.slice la ln lc] 22)).grown (unhide HG3) (by intro k hk; simp [Value.ownBlock] at hk))
    have HP3 := hide ((((Kept.refl [] w1).alloc (.cells #[.slice la ln lc] 22)).grown (unhide HG3) (by intro k hk; simp [Value.ownBlock] at hk)).heap (unhide HG1) (by simp))
  case' inr.inl =>
    have hpn' : decide (0 < pn) = false := by simp; omega
    have HL := hide (by unfold lowB; rw [if_neg (by rw [unhide HPN]; exact hpn), if_pos (by rw [unhide HSN]; exact hls)] : lowB z ss ps = [5])
    have HF := hide (by unfold footN; rw [if_neg (by rw [unhide HPN]; exact hpn), unhide HSN, hls] : footN ss ps = 0)
    obtain ⟨LOW, hLOW⟩ : ∃ LOW, LOW = ([5] : List Nat) := ⟨_, rfl⟩
    rw [← hLOW] at HL
    obtain ⟨J, hJ⟩ : ∃ J : Nat, 0 = J := ⟨_, rfl⟩
    have hJl : J ≤ sn := by omega
    have hls' : (sn : Int) - 1 < 0 := by omega
    have HATJ := hide (by rw [hls, ← hJ] : (sn : Int) - 1 = (J : Int) - 1)
    rw [hJ] at HF
    obtain ⟨w1, hw1e⟩ : ∃ w1, W.alloc (.cells #[.int .u8 5] 5) = w1 := ⟨_, rfl⟩
    have hrow : w1.heap[W.heap.size]? = some (.cells (([5] : List Nat).map u8).toArray 5 (0, 0)) := by rw [← hw1e]; exact heap_alloc_new _ _
    have HN1 := hide (by rw [hLOW, ← hWs]; exact NewB.mk (Nat.le_refl _) hrow (by simp) (by simp) : NewB W w1 (.slice (some ⟨w.heap.size + 1, 0, none⟩) 1 1) LOW)
    have k1 := (Kept.refl [] W).alloc (.cells #[.int .u8 5] 5)
    rw [hw1e] at k1
    have HK1 := hide ((unhide HK0).trans k1 (by simp))
    have HG1 := hide (k1.heap (unhide HG0) (by simp))
    have hw1 : w.heap.size + 1 ≤ w1.heap.size := by have := k1.size; omega
    clear hLOW hJ k1 hrow hls
    go_wp2_with (first | (rw [hW]) | (at_builtin; (try rw [hw1e]); refine wpList_pushV rfl _ _ rfl rfl (w1.alloc (.cells #[.slice (some ⟨w.heap.size + 1, 0, none⟩) 1 1] 22)) (w.heap.size + 1) (.slice none 0 0) [] (.slice (some ⟨w.heap.size + 1, 0, none⟩) 1 1) w1.heap.size (World.ownsRow_nil _ _ _ _) (heap_alloc_new _ _) rfl (by simp) (by simp; omega) rfl rfl ?_; intro g0 cap0 w3 HO3 HG3 HH3))
    clear hW hw1e c0 c1 hls'
    have HOV := hide ((OwnV.start (w.heap.size + 1) (w1.alloc (.cells #[.slice (some ⟨w.heap.size + 1, 0, none⟩) 1 1] 22))).push (bs := LOW) (x := .slice (some ⟨w.heap.size + 1, 0, none⟩) 1 1) ((unhide HN1).1.old ((Kept.refl [] w1).alloc _) (by simp)) (fun b hb => ⟨by simp [Value.ownBlock], by have h9 := (newB_eblk (unhide HN1) b hb).2; simp; omega⟩) rfl (unhide HO3) (unhide HG3) (unhide HH3))
    have HK3 := hide (((unhide HK1).alloc (.cells #[.slice (some ⟨w.heap.size + 1, 0, none⟩) 1 1] 22)).grown (unhide HG3) (by intro k hk; simp [Value.ownBlock] at hk))
    have HP3 := hide ((((Kept.refl [] w1).alloc (.cells #[.slice (some ⟨w.heap.size + 1, 0, none⟩) 1 1] 22)).grown (unhide HG3) (by intro k hk; simp [Value.ownBlock] at hk)).heap (unhide HG1) (by simp))
  case' inr.inr =>
    have hpn' : decide (0 < pn) = false := by simp; omega
    have hls' : decide ((1 : Int) ≤ sn) = true := by simp; omega
    have hls2 : (0 : Int) ≤ (sn : Int) - 1 := by omega
    have HL := hide (by unfold lowB; rw [if_neg (by rw [unhide HPN]; exact hpn), if_neg (by rw [unhide HSN]; exact hls), unhide HSN] : lowB z ss ps = branchB z (ss.getD (sn - 1) (0, [])).1 (ss.getD (sn - 1) (0, [])).2)
    have HF := hide (by unfold footN; rw [if_neg (by rw [unhide HPN]; exact hpn), unhide HSN] : footN ss ps = sn - 1)
    have HBE := hide (by
      have hP := unhide HPT
      have e1 := unhide HSN
      have h9 := (hP.fin (by rw [unhide HPN]; omega) (by omega)).2
      rw [e1] at h9
      exact (brD_eq hP.w (hP.b (sn - 1) (by omega)) (hP.nz (sn - 1) (by omega)) h9 (fun d hd => (hP.d (sn - 1) (by omega) d hd).2)).1 : branchE z (ss.getD (sn - 1) (0, [])).1 (ss.getD (sn - 1) (0, [])).2 = 0)
    obtain ⟨L, hL⟩ : ∃ L : Nat, sn - 1 = L := ⟨_, rfl⟩
    obtain ⟨_, _, _, vs, e9, _, _, _, S4, S5⟩ := id (unhide HS)
    cases e9
    obtain ⟨b, o, hsa, hcell⟩ := S5 (by omega)
    subst hsa
    have q1 := (unhide HK0).cell (hcell (sn - 1) (by omega)).1 (by simp)
    have q2 := (unhide HK0).cell (hcell (sn - 1) (by omega)).2 (by simp)
    have HD := hide (S4 (sn - 1) (by omega))
    clear hcell S4 S5
    rw [hL] at q1 q2 HD HL HF HBE
    have hLz : (sn : Int) - 1 = (L : Int) := by omega
    have hLl : (L : Int) < sn := by omega
    generalize ss.getD L (0, []) = st at q1 HD HL HBE
    generalize vs.getD L undef = vi at q2 HD
    obtain ⟨sb, sk⟩ := st
    simp only at q1 HD HL HBE
    obtain ⟨a8, m8, c8, rfl, hm8⟩ := id (unhide HD).2
    clear hm8
    obtain ⟨LOW, hLOW⟩ : ∃ LOW, branchB z sb sk = LOW := ⟨_, rfl⟩
    have HCT := hide (fun w0 (hw0 : Kept [] W w0) => branchInput_any z sb (.slice a8 m8 c8) sk w0 (by omega) (unhide HD).1 ((unhide HD).2.old ((unhide HK0).trans hw0 (by simp))))
    rw [unhide HBE] at HCT
    simp only [if_true] at HCT
    rw [hLOW] at HL HCT
    go_wp2_with (first | (rw [hW]))
    clear hW
    refine wp_in18 (by kernel_rfl) (by kernel_rfl) (by kernel_rfl) (by kernel_rfl) (by kernel_rfl) (by kernel_rfl) (by kernel_rfl) (by kernel_rfl) (by kernel_rfl) (by kernel_rfl) (by kernel_rfl) (by kernel_rfl) (by kernel_rfl) (by kernel_rfl) (by kernel_rfl) (by kernel_rfl) (by kernel_rfl) (by kernel_rfl) (by kernel_rfl) (by kernel_rfl) (by kernel_rfl) (by kernel_rfl) (by kernel_rfl) (by kernel_rfl) (by kernel_rfl) (by kernel_rfl) (by kernel_rfl) (by kernel_rfl) (by kernel_rfl) (by kernel_rfl) (by kernel_rfl) (by kernel_rfl) (by kernel_rfl) (by kernel_rfl) (by kernel_rfl) (by kernel_rfl) (by kernel_rfl) (by kernel_rfl) rfl
      (.int .i64 z) (.pointer (some ⟨w.heap.size, 0, none⟩)) (.slice (some ⟨b, o, none⟩) sn sc) (.int .i64 L) (.pointer (some ⟨b, o + L * 2, none⟩)) (.pointer (some ⟨b, o + L * 2, none⟩)) (.int .u16 sb) (.pointer (some ⟨w.heap.size, 0, none⟩)) (.slice (some ⟨b, o, none⟩) sn sc) (.int .i64 L) (.pointer (some ⟨b, o + L * 2, none⟩)) (.pointer (some ⟨b, o + L * 2 + 1, none⟩)) (.slice a8 m8 c8) _ _ _ _ _ _ _ _ _ _ _ _ _
      (fun w' => Kept [] W w')
      (fun w' => Kept [] W w')
      (fun u w' => (∃ la ln lc, u = .tuple #[.slice la ln lc, .int .i64 0] ∧ NewB W w' (.slice la ln lc) LOW) ∧ Kept [] W w')
      (fun u => u) (fun u => tupAt u 0) (fun u => tupAt u 1) (fun u => tupAt u 0)
      (by simp only [Act.put, List.setIfInBounds_toArray, List.set_cons_zero, List.set_cons_succ]; rfl) (by exact Or.inl ⟨by rfl, fun W' hW' => by go_simp⟩)
      (by simp only [Act.put, List.setIfInBounds_toArray, List.set_cons_zero, List.set_cons_succ]; rfl) (by exact Or.inl ⟨by rfl, fun W' hW' => by go_simp⟩)
      (by simp only [Act.put, List.setIfInBounds_toArray, List.set_cons_zero, List.set_cons_succ]; rfl) (by exact Or.inl ⟨by rfl, fun W' hW' => by have h9 := hW'.cell c0 (by simp); go_simp⟩)
      (by simp only [Act.put, List.setIfInBounds_toArray, List.set_cons_zero, List.set_cons_succ]; rfl) (by exact Or.inl ⟨by rfl, fun W' hW' => by go_simp⟩)
      (by simp only [Act.put, List.setIfInBounds_toArray, List.set_cons_zero, List.set_cons_succ]; rfl) (by exact Or.inl ⟨by rfl, fun W' hW' => by go_simp⟩)
      (by simp only [Act.put, List.setIfInBounds_toArray, List.set_cons_zero, List.set_cons_succ]; rfl) (by exact Or.inl ⟨by rfl, fun W' hW' => by go_simp⟩)
      (by simp only [Act.put, List.setIfInBounds_toArray, List.set_cons_zero, List.set_cons_succ]; rfl) (by exact Or.inl ⟨by rfl, fun W' hW' => by have h9 := hW'.cell q1 (by simp); go_simp⟩)
      (by simp only [Act.put, List.setIfInBounds_toArray, List.set_cons_zero, List.set_cons_succ]; rfl) (by exact Or.inl ⟨by rfl, fun W' hW' => by go_simp⟩)
      (by simp only [Act.put, List.setIfInBounds_toArray, List.set_cons_zero, List.set_cons_succ]; rfl) (by exact Or.inl ⟨by rfl, fun W' hW' => by have h9 := hW'.cell c0 (by simp); go_simp⟩)
      (by simp only [Act.put, List.setIfInBounds_toArray, List.set_cons_zero, List.set_cons_succ]; rfl) (by exact Or.inl ⟨by rfl, fun W' hW' => by go_simp⟩)
      (by simp only [Act.put, List.setIfInBounds_toArray, List.set_cons_zero, List.set_cons_succ]; rfl) (by exact Or.inl ⟨by rfl, fun W' hW' => by go_simp⟩)
      (by simp only [Act.put, List.setIfInBounds_toArray, List.set_cons_zero, List.set_cons_succ]; rfl) (by exact Or.inl ⟨by rfl, fun W' hW' => by go_simp⟩)
      (by simp only [Act.put, List.setIfInBounds_toArray, List.set_cons_zero, List.set_cons_succ]; rfl) (by exact Or.inl ⟨by rfl, fun W' hW' => by have h9 := hW'.cell q2 (by simp); go_simp⟩)
      (Kept.refl [] W).drew
      ⟨fun w' h => h, fun u w' h => h.2⟩
      (by
        intro w' i K hK
        refine wp_callN rfl Tryd.call21 [.int .i64 z, .int .u16 sb, .slice a8 m8 c8] rfl (unhide HCT w' i) ?_
        rintro e w2 ⟨v', rfl, nv, kv⟩
        obtain ⟨la, ln, lc, rfl, _⟩ := id nv.1
        exact ⟨_, rfl, hK _ _ ⟨⟨_, _, _, rfl, nv.weak i.size⟩, i.trans kv (by simp)⟩⟩)
      (by rintro u w' ⟨⟨la, ln, lc, rfl, _⟩, _⟩; exact Or.inl ⟨by rfl, fun W' hW' => by (try simp only [tupAt]); go_simp⟩)
      (by rintro u w' ⟨⟨la, ln, lc, rfl, _⟩, _⟩; exact Or.inl ⟨by rfl, fun W' hW' => by (try simp only [tupAt]); go_simp⟩)
      (by rintro u w' ⟨⟨la, ln, lc, rfl, _⟩, _⟩; exact Or.inl ⟨by rfl, fun W' hW' => by (try simp only [tupAt]); go_simp⟩)
      (by rintro u w' ⟨⟨la, ln, lc, rfl, _⟩, _⟩; exact Or.inl ⟨by rfl, fun W' hW' => by (try simp only [tupAt]); go_simp⟩)
      ?_
    rintro u w1 ⟨⟨la, ln, lc, rfl, n1⟩, k1⟩
    simp only [Act.put, List.setIfInBounds_toArray, List.set_cons_zero, List.set_cons_succ, tupAt, List.getD_cons_zero, List.getD_cons_succ]
    obtain ⟨J, hJ⟩ : ∃ J : Nat, L = J := ⟨_, rfl⟩
    have hJl : J ≤ sn := by omega
    have hw3 : IntKind.i64.wrap ((L : Int) - 1) = (L : Int) - 1 := by simp [IntKind.wrap, IntKind.signed, IntKind.bits]; omega
    have HATJ := hide (by rw [hJ] : (L : Int) - 1 = (J : Int) - 1)
    rw [hJ] at HF
    have HN1 := hide n1
    have HK1 := hide ((unhide HK0).trans k1 (by simp))
    have HG1 := hide (k1.heap (unhide HG0) (by simp))
    have hw1 : w.heap.size + 1 ≤ w1.heap.size := by have := k1.size; omega
    clear hLOW hJ n1 k1 c0 c1 q1 q2 HCT HBE HD
    go_wp2_with (at_builtin; refine wpList_pushV rfl _ _ rfl rfl (w1.alloc (.cells #[.slice la ln lc] 22)) (w.heap.size + 1) (.slice none 0 0) [] (.slice la ln lc) w1.heap.size (World.ownsRow_nil _ _ _ _) (heap_alloc_new _ _) rfl (by simp) (by simp; omega) rfl rfl ?_; intro g0 cap0 w3 HO3 HG3 HH3)
    have HOV := hide ((OwnV.start (w.heap.size + 1) (w1.alloc (.cells #[.slice la ln lc] 22))).push (bs := LOW) (x := .slice la ln lc) ((unhide HN1).1.old ((Kept.refl [] w1).alloc _) (by simp)) (fun b hb => ⟨by simp [Value.ownBlock], by have h9 := (newB_eblk (unhide HN1) b hb).2; simp; omega⟩) rfl (unhide HO3) (unhide HG3) (unhide HH3))
    have HK3 := hide (((unhide HK1).alloc (.cells #[.slice la ln lc] 22)).grown (unhide HG3) (by intro k hk; simp [Value.ownBlock] at hk))
    have HP3 := hide ((((Kept.refl [] w1).alloc (.cells #[.slice la ln lc] 22)).grown (unhide HG3) (by intro k hk; simp [Value.ownBlock] at hk)).heap (unhide HG1) (by simp))
    generalize (some (⟨b, o, none⟩ : Addr)) = sa at *
  all_goals
    have HIN := hide (by unfold inpA; rw [unhide HF, unhide HL]; simp : inpD z (keyS z key) ss J LOW ++ (([] : List (List Nat × Value)).map (·.1)).reverse = inpA z key ss ps)
    go_loopw [7, 8, 9] (fun t7 t8 t9 wr => ∃ (n g n7 cap : Nat) (lo : List Nat) (la : Option Addr) (ln lc : Nat) (tl : List (List Nat × Value)), n ≤ J ∧ t7 = .slice (some ⟨g, 0, none⟩) n7 cap ∧ t8 = .slice la ln lc ∧ t9 = .int .i64 ((n : Int) - 1) ∧ Hid (OwnV (w.heap.size + 1) wr (.slice (some ⟨g, 0, none⟩) n7 cap) (tl ++ [(lo, .slice la ln lc)])) ∧ Hid (inpD z (keyS z key) ss n lo ++ (tl.map (·.1)).reverse = inpA z key ss ps) ∧ Hid (n7 = tl.length + 1 ∧ tl.length + n = J) ∧ Hid (Kept [] w wr) ∧ Hid (wr.heap[w.heap.size]? = some (.cells #[.slice sa sn sc, .slice pa pn pc] 26 (0, 0)))) (fun _ _ t9 _ => (intOf t9 + 1).toNat)
    case atStart => exact ⟨J, g0, _, cap0, LOW, _, _, _, [], Nat.le_refl _, rfl, rfl, (by first | rw [unhide HATJ] | (have h9 := unhide HATJ; simp at h9 ⊢; omega)), HOV, HIN, hide ⟨rfl, by simp⟩, HK3, HP3⟩
    case round =>
      obtain ⟨n, g, n7, cap, lo, la, ln, lc, tl, hn, rfl, rfl, rfl, HO, HI, HNN, HK, HG⟩ := hrel
      cases n with
      | zero =>
        have hge : decide ((0 : Int) ≤ ((0 : Nat) : Int) - 1) = false := by decide
        obtain ⟨hn7, hJ7⟩ := unhide HNN
        have hw7 : IntKind.i64.wrap ((n7 : Int) - 1) = (n7 : Int) - 1 := by simp [IntKind.wrap, IntKind.signed, IntKind.bits]; omega
        have HTS := hide (by have h9 := unhide HI; rw [List.map_append, List.reverse_append]; exact h9 : ((tl ++ [(lo, Value.slice la ln lc)]).map (·.1)).reverse = inpA z key ss ps)
        have HTL := hide (by simp; omega : (tl ++ [(lo, Value.slice la ln lc)]).length = n7)
        have hn65 : n7 ≤ 65 := by omega
        generalize tl ++ [(lo, Value.slice la ln lc)] = ts at HO HTS HTL
        clear hn7 hJ7 HI HNN
        go_wp2_with fail
        obtain ⟨R0, hR0⟩ : ∃ R0, R0 = wr := ⟨_, rfl⟩
        subst hR0
        go_loopw [15, 16] (fun t15 t16 wr => ∃ (m dn dc : Nat) (da : Option Addr) (ds : List (List Nat × Value)), m ≤ n7 ∧ t15 = .slice da dn dc ∧ t16 = .int .i64 ((m : Int) - 1) ∧ Hid (OwnV R0.heap.size wr (.slice da dn dc) ds) ∧ Hid (ds.map (·.1) = ((ts.map (·.1)).drop m).reverse) ∧ Hid (ds.length + m = n7) ∧ Hid (Kept [] R0 wr)) (fun _ t16 _ => (intOf t16 + 1).toNat)
        case atStart => exact ⟨n7, 0, 0, none, [], Nat.le_refl _, rfl, rfl, hide (OwnV.start _ _), hide (by rw [List.drop_eq_nil_of_le (by rw [List.length_map, unhide HTL]; exact Nat.le_refl _)]; rfl), hide (by simp), hide (Kept.refl _ _)⟩
        case round =>
          obtain ⟨m, dn, dc, da, ds, hm, rfl, rfl, HQ, HE, HL2, HKq⟩ := hrel
          cases m with
          | zero =>
            have hge2 : decide ((0 : Int) ≤ ((0 : Nat) : Int) - 1) = false := by decide
            go_wp2_with fail
            go_ret
            refine ⟨⟨_, rfl, ?_⟩, (unhide HK).trans (unhide HKq) (by simp)⟩
            rw [← unhide HTS]
            have h9 := (unhide HQ).rdl
            rw [unhide HE, List.drop_zero] at h9
            exact h9
          | succ k =>
            have hkz : ((k + 1 : Nat) : Int) - 1 = (k : Int) := by omega
            have hge2 : decide ((0 : Int) ≤ (k : Int)) = true := by simp
            have hk7 : (k : Int) < n7 := by omega
            have hw8 : IntKind.i64.wrap ((k : Int) - 1) = (k : Int) - 1 := by simp [IntKind.wrap, IntKind.signed, IntKind.bits]; omega
            have hkt : k < ts.length := by have := unhide HTL; omega
            obtain ⟨tb, tv, htk⟩ : ∃ tb tv, ts[k] = (tb, tv) := ⟨_, _, rfl⟩
            have hmem : (tb, tv) ∈ ts := by rw [← htk]; exact List.getElem_mem _
            have hrd := (unhide HO).ok (tb, tv) hmem
            have hap := (unhide HO).apart (tb, tv) hmem
            have hcl := (unhide HO).own.cells (g := g) rfl k tv (by rw [List.getElem?_map, List.getElem?_eq_getElem hkt, htk]; rfl)
            rw [Addr.add_mid, Nat.zero_add] at hcl
            have q := (unhide HKq).cell hcl (by simp)
            have HRD := hide (hrd.old (unhide HKq) (by simp))
            have HAP := hide hap
            have HE2 := hide (by rw [List.map_append, unhide HE, List.drop_eq_getElem_cons (i := k) (by rw [List.length_map]; exact hkt), List.reverse_cons, List.getElem_map, htk]; rfl : (ds ++ [(tb, tv)]).map (·.1) = ((ts.map (·.1)).drop k).reverse)
            obtain ⟨ta, tn, tc, rfl, h9⟩ := id hrd
            have HQ5 := hide ((unhide HQ).pass ((Kept.refl [] wr).alloc (.cells #[.slice ta tn tc] 22)))
            have HKq5 := hide ((unhide HKq).alloc (.cells #[.slice ta tn tc] 22))
            have hwq : R0.heap.size ≤ wr.heap.size := (unhide HKq).size
            obtain ⟨xs, hxs⟩ : ∃ xs, ds.map (·.2) = xs := ⟨_, rfl⟩
            have HXS := hide hxs
            have HXL := hide (by rw [← hxs]; simp : xs.length = ds.length)
            have hdl9 : xs.length + 1 ≤ 66 := by have := unhide HXL; have := unhide HL2; omega
            clear h9 hxs hcl hap hrd hmem htk
            go_wp2_with (at_builtin; refine wpList_pushV rfl _ _ rfl rfl (wr.alloc (.cells #[.slice ta tn tc] 22)) R0.heap.size (.slice da dn dc) xs (.slice ta tn tc) wr.heap.size ((unhide HQ5).xs (unhide HXS)) (heap_alloc_new _ _) rfl (by omega) (by simp; omega) rfl rfl ?_; intro g6 cap6 w6 HO6 HG6 HH6)
            have HOV2 := hide ((unhide HQ5).push (bs := tb) (x := .slice ta tn tc) ((unhide HRD).old ((Kept.refl [] wr).alloc _) (by simp)) (fun b' hb => ⟨fun e => by have h9 := (unhide HAP b' hb).2; have h8 := ((unhide HQ5).own.lt b' e).1; omega, by have h9 := (unhide HAP b' hb).2; simp; omega⟩) (unhide HXS) (unhide HO6) (unhide HG6) (unhide HH6))
            have HK6 := hide ((unhide HKq5).grown (unhide HG6) (by intro k9 hk9; right; exact ((unhide HQ5).own.lt k9 hk9).1))
            go_wp2
            go_roundw
            case rel => exact ⟨k, by omega, _, _, _, ⟨rfl, rfl, rfl⟩, rfl, ds ++ [(tb, Value.slice ta tn tc)], HOV2, HE2, hide (by have := unhide HL2; simp; omega), HK6⟩
            case measure => simp [intOf] <;> omega
      | succ j =>
        have hjl : j < sn := by omega
        have hjz : ((j + 1 : Nat) : Int) - 1 = (j : Int) := by omega
        have hjl' : (j : Int) < sn := by omega
        have hge : decide ((0 : Int) ≤ (j : Int)) = true := by simp
        have hw4 : IntKind.i64.wrap ((j : Int) - 1) = (j : Int) - 1 := by simp [IntKind.wrap, IntKind.signed, IntKind.bits]; omega
        obtain ⟨_, _, _, vs, e9, _, _, _, S4, S5⟩ := id (unhide HS)
        cases e9
        obtain ⟨b, o, hsa, hcell⟩ := S5 (by omega)
        subst hsa
        have q1 := (unhide HK).cell (hcell j hjl).1 (by simp)
        have q2 := (unhide HK).cell (hcell j hjl).2 (by simp)
        have HD := hide (S4 j hjl)
        have HTH := hide ((unhide HPT).thr j (by rw [unhide HF]; omega)).2
        have HBE := hide (st_sum (unhide HPT) (k := j) (d := sumD z lo) (by rw [unhide HF]; omega) (sumD_ok (unhide HPT).w lo)).1
        obtain ⟨M, hM⟩ : ∃ M, stK z (keyS z key) ss j (sumD z lo) = M := ⟨_, rfl⟩
        have HI2 := hide (by have h9 := unhide HI; rw [inpD, List.append_assoc, stB, hM] at h9; rw [List.map_append, List.reverse_append]; exact h9 : inpD z (keyS z key) ss j (branchB z (ss.getD j (0, [])).1 M) ++ ((tl ++ [(lo, Value.slice la ln lc)]).map (·.1)).reverse = inpA z key ss ps)
        have HM := hide (by rw [← hM]; rfl : M = (ss.getD j (0, [])).2.take (rankB (ss.getD j (0, [])).1 (atC z (keyS z key) j : Nat)) ++ sumD z lo :: (ss.getD j (0, [])).2.drop (rankB (ss.getD j (0, [])).1 (atC z (keyS z key) j : Nat)))
        rw [hM] at HBE
        have hpx : atC z (keyS z key) (j : Int) < 16 := by
          unfold atC
          split
          · exact dgt_lt (keyS_dg _ _).2 _
          · omega
        have HCD := hide (fun w' (hw' : Kept [] w w') => child_any z (.slice ka kn kc) key j w' (by omega) (by omega) ((unhide HKY).old hw' (by simp)) hkl ((unhide HT).k hw'))
        generalize ss.getD j (0, []) = st at q1 HD HTH HBE HM HI2
        generalize vs.getD j undef = vi at q2 HD
        generalize atC z (keyS z key) (j : Int) = px at HTH HM hpx HCD
        obtain ⟨sb, sk⟩ := st
        simp only at q1 HD HTH HBE HM HI2
        obtain ⟨a8, m8, c8, rfl, hm8⟩ := id (unhide HD).2
        have HM8 := hide hm8
        obtain ⟨rk, hrk⟩ : ∃ rk, rankB sb ((px : Nat) : Int) = rk := ⟨_, rfl⟩
        have HRK := hide (fun w' => rank_any sb (px : Int) w' (unhide HD).1 (by omega))
        rw [hrk] at HTH HM HRK
        obtain ⟨hcn, hrl⟩ := unhide HTH
        have hsk : sk.length ≤ 15 := by have := cnt_le sb 16; omega
        have HDG := hide (sumD_dg z lo)
        have HSE := hide (by unfold sumE; rw [(unhide HPT).w]; rfl : sumE z = 0)
        have HLO := hide ((unhide HO).ok (lo, .slice la ln lc) (by simp))
        obtain ⟨D, hD⟩ : ∃ D, sumD z lo = D := ⟨_, rfl⟩
        have HDE := hide hD
        rw [hD] at HM HDG
        have hdl := (unhide HDG).1
        have HSZ := hide (Tryd.szD hdl)
        have cg : wr.cell? ⟨w.heap.size, 0, none⟩ = some (.slice (some ⟨b, o, none⟩) sn sc) := cell_of_row _ _ 0 _ _ _ (unhide HG)
        clear hcell S4 S5 hM hrk hD HTH hm8 HI
        go_wp2_with fail
        refine Calls.mono (dsum_all z _ [lo] _ (by omega) (RdL.one (heap_alloc_new _ _) ((unhide HLO).old ((Kept.refl [] wr).alloc _) (by simp))) (by have h9 := (unhide HLO).len; simpa using h9) ((unhide HT).k ((unhide HK).alloc _))) ?_
        rintro e w2 ⟨rfl, k2⟩
        rw [unhide HSE]
        simp only [List.flatten_cons, List.flatten_nil, List.append_nil]
        rw [unhide HDE]
        have kA := ((Kept.refl [] wr).alloc (.cells #[.slice la ln lc] 22)).trans ((k2.alloc (.cells (zb 32) 29)).setRow (g := w2.heap.size) (Or.inr k2.size) (brow D)) (by simp)
        have HN2 := hide (setRow_heap (w2.alloc (.cells (zb 32) 29)) w2.heap.size (zb 32) (brow D) 29 (0, 0) (heap_alloc_new _ _))
        obtain ⟨X1, hX1⟩ : ∃ X1, (w2.alloc (.cells (zb 32) 29)).setRow w2.heap.size (brow D) = X1 := ⟨_, rfl⟩
        rw [hX1] at kA HN2
        have r1 := kA.cell q1 (by simp)
        have r2 := kA.cell q2 (by simp)
        have dg := kA.cell cg (by simp)
        have kX := ((Kept.refl [] X1).alloc (.cells #[.int .u16 0, .slice none 0 0] 43)).setRow (g := X1.heap.size) (Or.inr (Nat.le_refl _)) #[.int .u16 sb, .slice a8 m8 c8]
        have HSX := hide (setRow_heap (X1.alloc (.cells #[.int .u16 0, .slice none 0 0] 43)) X1.heap.size _ #[.int .u16 sb, .slice a8 m8 c8] 43 (0, 0) (heap_alloc_new _ _))
        obtain ⟨X2, hX2⟩ : ∃ X2, (X1.alloc (.cells #[.int .u16 0, .slice none 0 0] 43)).setRow X1.heap.size #[.int .u16 sb, .slice a8 m8 c8] = X2 := ⟨_, rfl⟩
        rw [hX2] at kX HSX
        have HKR := hide (kA.trans kX (by simp))
        have HK2 := hide ((unhide HK).trans (unhide HKR) (by simp))
        have HN3 := hide (kX.heap (unhide HN2) (by simp))
        have f0 : X2.cell? ⟨X1.heap.size, 0, none⟩ = some (.int .u16 sb) := cell_of_row _ _ 0 _ _ _ (unhide HSX)
        have f1 : X2.cell? ⟨X1.heap.size, 1, none⟩ = some (.slice a8 m8 c8) := cell_of_row _ _ 1 _ _ _ (unhide HSX)
        clear kA kX k2 q1 q2 cg HN2
        go_wp2_with (first
          | (rw [zb32]; refine wpList_store_row rfl 29 _ _ rfl w2.heap.size (brow D) rfl rfl _ (zb 32) (heap_alloc_new _ _) (unhide HSZ) (by rw [zb_size, brow_size, hdl]) (brow_one _) ?_; rw [hX1])
          | (refine wpList_store_row rfl 43 _ _ rfl X1.heap.size #[.int .u16 sb, .slice a8 m8 c8] rfl rfl _ #[.int .u16 0, .slice none 0 0] (heap_alloc_new _ _) (by kernel_rfl) rfl (by simp [Value.oneCell']) ?_; rw [hX2]))
        clear hX1 hX2 r1 r2 dg
        simp only [Act.put]
        have hne : ∀ p : Prop, (∀ w', Kept [] X2 w' → p) = p := fun p => propext ⟨fun h => h X2 (Kept.refl [] X2), fun h _ _ => h⟩
        have HC1 := hide (fun w' (hw' : Kept [] X2 w') => (unhide HCD w' ((unhide HK2).trans hw' (by simp))).mono (fun e w3 (h2 : _ ∧ _) => (⟨h2.1, hw'.trans h2.2 (by simp)⟩ : _ ∧ Kept [] X2 w3)))
        have HC2 := hide (fun w' (hw' : Kept [] X2 w') => (unhide HRK w').mono (fun e w3 (h2 : _ ∧ _) => (⟨h2.1, hw'.trans h2.2 (by simp)⟩ : _ ∧ Kept [] X2 w3)))
        have hmin : min (rk : Int) (m8 : Int) = (rk : Int) := by obtain ⟨h9, _⟩ := unhide HM8; omega
        refine wp_region_keep (by kernel_rfl) (by kernel_rfl) ?_
        go_big_quiet_step (fail)
        refine wpQuiet_val rfl (.int .u16 sb) (fun w' hw' => by have h9 := hw'.cell f0 (by simp); go_simp) ?_
        simp only [Act.put, List.setIfInBounds_toArray, List.set_cons_succ, List.set_cons_zero]
        iterate 3 (go_big_quiet_step (fail))
        go_big_quiet_want
        go_big_quiet_op
        apply Exists.intro
        refine ⟨fun w' hw' => ?_, ?_⟩
        · exact unhide HC1 w' hw'
        go_big_quiet_on
        go_big_quiet_want
        go_big_quiet_op
        apply Exists.intro
        refine ⟨fun w' hw' => ?_, ?_⟩
        · exact unhide HC2 w' hw'
        go_big_quiet_on
        go_big_quiet_step (fail)
        refine wpQuiet_val rfl (.slice a8 m8 c8) (fun w' hw' => by have h9 := hw'.cell f1 (by simp); go_simp) ?_
        simp only [Act.put, List.setIfInBounds_toArray, List.set_cons_succ, List.set_cons_zero]
        repeat (go_big_quiet_step (fail))
        refine wpQuiet_nil ?_
        intro X3 k3
        have HK3 := hide ((unhide HK2).trans k3 (by simp))
        have HKR3 := hide ((unhide HKR).trans k3 (by simp))
        have HN4 := hide (k3.heap (unhide HN3) (by simp))
        have g0 := k3.cell f0 (by simp)
        have g1 := k3.cell f1 (by simp)
        have HDX := hide ((unhide HD).2.old (unhide HK3))
        clear k3 f0 f1 hne HC1 HC2 HKR HK2 HN3 hmin HSX
        obtain ⟨hm1, hm2, hm3, _⟩ := unhide HM8
        have HM1 := hide hm1
        have hr0 : (0 : Int) ≤ rk := by omega
        have hrl' : (rk : Int) ≤ m8 := by omega
        have hrc : (rk : Int) ≤ c8 := by omega
        have hmc : (m8 : Int) ≤ c8 := by omega
        obtain ⟨V9, h39, r9⟩ : ∃ V9 : Value, ((m8 = 0 ∧ rk = 0 ∧ V9 = .slice a8 0 c8) ∨ (0 < m8 ∧ ∃ b' o', a8 = some ⟨b', o', none⟩ ∧ ((c8 = rk ∧ V9 = .slice a8 (m8 - rk) 0) ∨ (¬ c8 = rk ∧ V9 = .slice (some ⟨b', o' + rk * 32, none⟩) (m8 - rk) (c8 - rk))))) ∧ RdD X3 V9 (sk.drop rk) := by
          rcases Nat.eq_zero_or_pos m8 with h9 | h9
          · have hnil : sk = [] := List.eq_nil_of_length_eq_zero (by omega)
            have h8 := unhide HDX
            rw [hnil] at h8 ⊢
            rw [h9] at h8
            exact ⟨_, Or.inl ⟨h9, by omega, rfl⟩, by simpa using h8⟩
          · obtain ⟨_, _, _, e9, _, _, _, _, h5⟩ := id (unhide HDX)
            cases e9
            obtain ⟨b', o', e9, _⟩ := h5 h9
            subst e9
            by_cases hc9 : c8 = rk
            · exact ⟨_, Or.inr ⟨h9, b', o', rfl, Or.inl ⟨hc9, rfl⟩⟩, (unhide HDX).from' (by omega) ⟨by omega, by omega⟩ (fun h9 => by omega)⟩
            · exact ⟨_, Or.inr ⟨h9, b', o', rfl, Or.inr ⟨hc9, rfl⟩⟩, (unhide HDX).from' (by omega) ⟨by omega, by omega⟩ (fun _ => rfl)⟩
        have H39 := hide h39
        have HU9 := hide ((unhide HDX).upto rk (by omega))
        have HV9 := hide r9
        obtain ⟨va, vn, vc, hv9⟩ : ∃ va vn vc, V9 = .slice va vn vc := by obtain ⟨_, _, _, e9, _⟩ := r9; exact ⟨_, _, _, e9⟩
        have HV9e := hide hv9
        have HDM := hide (fun x (hx : x ∈ M) => (by
          rw [unhide HM] at hx
          rcases List.mem_append.1 hx with h | h
          · exact (unhide HDX).dg (List.mem_of_mem_take h)
          · rcases List.mem_cons.1 h with rfl | h
            · exact unhide HDG
            · exact (unhide HDX).dg (List.mem_of_mem_drop h) : Dg x))
        have hTl : (sk.take rk).length = rk := by simp; omega
        have hUl : (sk.drop rk).length ≤ 15 := by simp; omega
        have HMe := hide (by rw [unhide HM]; simp : M = sk.take rk ++ [D] ++ sk.drop rk)
        clear HM h39 r9 hv9 hm1 hm2 hm3
        generalize sk.take rk = T at *
        generalize sk.drop rk = U at *
        go_wp2_with fail
        refine wp_in15 (by kernel_rfl) (by kernel_rfl) (by kernel_rfl) (by kernel_rfl) (by kernel_rfl) (by kernel_rfl) (by kernel_rfl) (by kernel_rfl) (by kernel_rfl) (by kernel_rfl) (by kernel_rfl) (by kernel_rfl) (by kernel_rfl) (by kernel_rfl) (by kernel_rfl) (by kernel_rfl) (by kernel_rfl) (by kernel_rfl) (by kernel_rfl) (by kernel_rfl) (by kernel_rfl) (by kernel_rfl) (by kernel_rfl) (by kernel_rfl) (by kernel_rfl) (by kernel_rfl) (by kernel_rfl) (by kernel_rfl) (by kernel_rfl) (by kernel_rfl) rfl rfl rfl rfl rfl (by simp) (by simp)
          (.pointer (some ⟨X1.heap.size, 1, none⟩)) (.slice a8 m8 c8) (.int .i64 rk) (.slice a8 rk c8) (.agg (D.map Go.Proofs.YtjafmnemobcipaaDoor.u8).toArray) (.pointer (some ⟨X1.heap.size, 1, none⟩)) (.slice a8 m8 c8) (.int .i64 rk) V9 _ _ _ _ _ _ _ _ _
          (fun w' => Kept [] X3 w')
          (fun w' => Kept [] X3 w')
          (fun u0 w' => (∃ g, u0 = .slice (some ⟨g, 0, none⟩) 0 0) ∧ w'.ownsRow X3.heap.size 29 32 u0 ([] : List (List Nat)).length (flatD []) ∧ Kept [] X3 w')
          (fun u7 w' => (∃ H, u7 = .slice (some ⟨H, 0, none⟩) 1 1 ∧ w'.heap[H]? = some (.cells (brow D) 29 (0, 0))) ∧ Kept [] X3 w')
          (fun u0 u5 w' => (∃ aa nn cc, u5 = .slice aa nn cc) ∧ w'.ownsRow X3.heap.size 29 32 u5 T.length (flatD T) ∧ Kept [] X3 w')
          (fun u0 u7 w' => (∃ g, u0 = .slice (some ⟨g, 0, none⟩) 0 0) ∧ w'.ownsRow X3.heap.size 29 32 u0 ([] : List (List Nat)).length (flatD []) ∧ (∃ H, u7 = .slice (some ⟨H, 0, none⟩) 1 1 ∧ w'.heap[H]? = some (.cells (brow D) 29 (0, 0)) ∧ u0.ownBlock ≠ some H) ∧ Kept [] X3 w')
          (fun u0 u5 u7 w' => (∃ aa nn cc, u5 = .slice aa nn cc) ∧ w'.ownsRow X3.heap.size 29 32 u5 T.length (flatD T) ∧ (∃ H, u7 = .slice (some ⟨H, 0, none⟩) 1 1 ∧ w'.heap[H]? = some (.cells (brow D) 29 (0, 0)) ∧ u5.ownBlock ≠ some H) ∧ Kept [] X3 w')
          (fun u0 u5 u7 u8 w' => (∃ aa nn cc, u8 = .slice aa nn cc) ∧ w'.ownsRow X3.heap.size 29 32 u8 (T ++ [D]).length (flatD (T ++ [D])) ∧ Kept [] X3 w')
          (fun u0 u5 u7 u8 u13 w' => (∃ aa nn cc, u13 = .slice aa nn cc) ∧ RdD w' u13 M ∧ Kept [] X3 w')
          (fun u => u)
          (by simp only [Act.put, List.setIfInBounds_toArray, List.set_cons_zero, List.set_cons_succ]; rfl) (by exact Or.inl ⟨by rfl, fun W' hW' => by go_simp⟩)
          (by simp only [Act.put, List.setIfInBounds_toArray, List.set_cons_zero, List.set_cons_succ]; rfl) (by exact Or.inl ⟨by rfl, fun W' hW' => by have h9 := hW'.cell g1 (by simp); go_simp⟩)
          (by simp only [Act.put, List.setIfInBounds_toArray, List.set_cons_zero, List.set_cons_succ]; rfl) (by exact Or.inl ⟨by rfl, fun W' hW' => by go_simp⟩)
          (by simp only [Act.put, List.setIfInBounds_toArray, List.set_cons_zero, List.set_cons_succ]; rfl) (by exact Or.inl ⟨by rfl, fun W' hW' => by go_simp⟩)
          (by simp only [Act.put, List.setIfInBounds_toArray, List.set_cons_zero, List.set_cons_succ]; rfl) (by exact yieldsIf_load_mid (by rfl) _ _ rfl w2.heap.size 0 rfl (D.map Go.Proofs.YtjafmnemobcipaaDoor.u8) _ (fun W' hW' => range_row (hW'.heap (unhide HN4) (by simp))) Tryd.underlying29 rfl (by rw [List.length_map, hdl]; exact Tryd.size_dig))
          (by simp only [Act.put, List.setIfInBounds_toArray, List.set_cons_zero, List.set_cons_succ]; rfl) (by exact Or.inl ⟨by rfl, fun W' hW' => by go_simp⟩)
          (by simp only [Act.put, List.setIfInBounds_toArray, List.set_cons_zero, List.set_cons_succ]; rfl) (by exact Or.inl ⟨by rfl, fun W' hW' => by have h9 := hW'.cell g1 (by simp); go_simp⟩)
          (by simp only [Act.put, List.setIfInBounds_toArray, List.set_cons_zero, List.set_cons_succ]; rfl) (by exact Or.inl ⟨by rfl, fun W' hW' => by go_simp⟩)
          (by simp only [Act.put, List.setIfInBounds_toArray, List.set_cons_zero, List.set_cons_succ]; rfl) (by exact Or.inl ⟨by rfl, fun W' hW' => by have h9 := unhide H39; clear H39 HV9 HV9e; rcases h9 with ⟨h0, h1, rfl⟩ | ⟨h0, b', o', rfl, ⟨h2, rfl⟩ | ⟨h2, rfl⟩⟩; (subst h0; subst h1; go_simp); (subst h2; go_simp); (go_simp)⟩)
          (Kept.refl [] X3).drew
          ⟨fun w' h => h, fun u0 w' h => h.2.2, fun u7 w' h => h.2, fun u0 u5 w' h => h.2.2, fun u0 u7 w' h => h.2.2.2, fun u0 u5 u7 w' h => h.2.2.2, fun u0 u5 u7 u8 w' h => h.2.2, fun u0 u5 u7 u8 u13 w' h => h.2.2⟩
          (by intro w' i K hK; unfold Oper.wp execOp; go_simp; exact hK _ _ ⟨⟨_, rfl⟩, World.ownsRow_made (base := X3.heap.size) (e := 29) (size := 32) w' #[] 0 i.size (by unfold maxLen; omega) (by simp), i.alloc _⟩)
          (by intro w' i K hK; have hfs : ∀ A : Array Value, (List.foldl (fun cs x => cs.setIfInBounds x.snd x.fst) A (List.map u8 D).zipIdx).size = A.size := fun A => fold_size _ A 0; unfold Oper.wp execOp; go_simp; rw [zb32, one_dig D hdl]; exact hK _ _ ⟨⟨_, rfl, heap_alloc_new _ _⟩, i.alloc _⟩)
          (by
            rintro u0 w' ⟨⟨g9, rfl⟩, ho, i⟩ K hK
            obtain ⟨ao1, cap1, w1, hrun, h2, h3, h4⟩ := appendDA w' X3.heap.size (.slice (some ⟨g9, 0, none⟩) 0 0) [] T a8 rk c8 ho ((unhide HU9).old i) (by simp; omega) i.size
            have hg9 := ho.lt g9 rfl
            refine wp_append rfl rfl rfl rfl hrun (hK _ _ ⟨⟨_, _, _, rfl⟩, ?_, i.grown h3 (by intro k hk; right; simp only [Value.ownBlock, Option.some.injEq] at hk; subst hk; exact hg9.1)⟩)
            simp only [List.nil_append, List.length_nil, Nat.zero_add] at h2 ⊢
            exact h2)
          (by
            rintro u0 w' ⟨⟨g9, rfl⟩, ho, i⟩ K hK
            have hfs : ∀ A : Array Value, (List.foldl (fun cs x => cs.setIfInBounds x.snd x.fst) A (List.map u8 D).zipIdx).size = A.size := fun A => fold_size _ A 0
            unfold Oper.wp execOp
            go_simp
            rw [zb32, one_dig D hdl]
            exact hK _ _ ⟨⟨_, rfl⟩, ((Kept.refl [] w').alloc _).owns ho (by simp), ⟨_, rfl, heap_alloc_new _ _, fun e => by have := (ho.lt _ e).2; omega⟩, i.alloc _⟩)
          (by
            rintro u7 w' ⟨⟨H, rfl, hH⟩, i⟩ K hK
            unfold Oper.wp execOp
            go_simp
            exact hK _ _ ⟨⟨_, rfl⟩, World.ownsRow_made (base := X3.heap.size) (e := 29) (size := 32) w' #[] 0 i.size (by unfold maxLen; omega) (by simp), ⟨_, rfl, ((Kept.refl [] w').alloc _).heap hH (by simp), fun e => by have := lt_of_block hH; simp only [Value.ownBlock, Option.some.injEq] at e; omega⟩, i.alloc _⟩)
          (by
            rintro u0 u5 w' ⟨⟨aa, nn, cc, rfl⟩, ho, i⟩ K hK
            have hfs : ∀ A : Array Value, (List.foldl (fun cs x => cs.setIfInBounds x.snd x.fst) A (List.map u8 D).zipIdx).size = A.size := fun A => fold_size _ A 0
            unfold Oper.wp execOp
            go_simp
            rw [zb32, one_dig D hdl]
            exact hK _ _ ⟨⟨_, _, _, rfl⟩, ((Kept.refl [] w').alloc _).owns ho (by simp), ⟨_, rfl, heap_alloc_new _ _, fun e => by have := (ho.lt _ e).2; omega⟩, i.alloc _⟩)
          (by
            rintro u0 u7 w' ⟨⟨g9, rfl⟩, ho, ⟨H, rfl, hH, hne⟩, i⟩ K hK
            obtain ⟨ao1, cap1, w1, hrun, h2, h3, h4⟩ := appendDA w' X3.heap.size (.slice (some ⟨g9, 0, none⟩) 0 0) [] T a8 rk c8 ho ((unhide HU9).old i) (by simp; omega) i.size
            have hg9 := ho.lt g9 rfl
            have hgH : H ≠ g9 := fun e => hne (by rw [e]; rfl)
            have kG := (Kept.refl [g9] w').grown h3 (by intro k hk; left; simp only [Value.ownBlock, Option.some.injEq] at hk; subst hk; simp)
            refine wp_append rfl rfl rfl rfl hrun (hK _ _ ⟨⟨_, _, _, rfl⟩, ?_, ⟨_, rfl, kG.heap hH (by simpa using hgH), ?_⟩, i.grown h3 (by intro k hk; right; simp only [Value.ownBlock, Option.some.injEq] at hk; subst hk; exact hg9.1)⟩)
            · simp only [List.nil_append, List.length_nil, Nat.zero_add] at h2 ⊢
              exact h2
            · intro e
              rcases h4 with h4 | h4
              · rw [h4] at e; exact hne e
              · rw [h4] at e; have := lt_of_block hH; simp only [Option.some.injEq] at e; omega)
          (by
            rintro u0 u5 u7 w' ⟨⟨aa, nn, cc, rfl⟩, ho, ⟨H, rfl, hH, hne⟩, i⟩ K hK
            obtain ⟨ao1, cap1, w1, hrun, h2, h3, h4⟩ := appendDA w' X3.heap.size (.slice aa nn cc) T [D] (some ⟨H, 0, none⟩) 1 1 ho (RdD.one hH (unhide HDG)) (by simp; omega) i.size
            exact wp_append rfl rfl rfl rfl hrun (hK _ _ ⟨⟨_, _, _, rfl⟩, h2, i.grown h3 (by intro k hk; right; exact (ho.lt k hk).1)⟩))
          (by
            rintro u0 u5 u7 u8 w' ⟨⟨aa, nn, cc, rfl⟩, ho, i⟩ K hK
            have e9 := unhide HV9e
            have hr9 := unhide HV9
            clear H39 HV9e HV9
            subst e9
            obtain ⟨ao1, cap1, w1, hrun, h2, h3, h4⟩ := appendDA w' X3.heap.size (.slice aa nn cc) (T ++ [D]) U va vn vc ho (hr9.old i) (by simp; omega) i.size
            refine wp_append rfl rfl rfl rfl hrun (hK _ _ ⟨⟨_, _, _, rfl⟩, ?_, i.grown h3 (by intro k hk; right; exact (ho.lt k hk).1)⟩)
            rw [unhide HMe]
            have h8 := rdd_owns h2 (by rw [← unhide HMe]; exact unhide HDM)
            exact h8)
          (by rintro u0 u5 u7 u8 u13 w' ⟨⟨aa, nn, cc, rfl⟩, _⟩; exact Or.inl ⟨by rfl, fun W' hW' => by go_simp⟩)
          ?_
        rintro u0 u5 u7 u8 u13 X4 ⟨⟨aa, nn, cc, rfl⟩, hR4, k4⟩
        simp only [Act.put, List.setIfInBounds_toArray, List.set_cons_zero, List.set_cons_succ]
        have g4 := k4.cell g0 (by simp)
        have HK4 := hide ((unhide HK3).trans k4 (by simp))
        have HKR4 := hide ((unhide HKR3).trans k4 (by simp))
        have HR4 := hide hR4
        clear hR4 k4 g0 g1 HN4 HK3 HKR3 HDX H39 HU9 HV9 HV9e HDM HMe hTl hUl
        go_wp2_with fail
        refine Calls.mono (branchInput_any z sb _ M X4 (by omega) (unhide HD).1 (unhide HR4)) ?_
        rintro e w5 ⟨v5, rfl, n5, k5⟩
        rw [unhide HBE]
        rw [unhide HBE, if_pos rfl] at n5
        obtain ⟨la5, ln5, lc5, rfl, h9⟩ := id n5.1
        clear h9 g4
        have HN5 := hide n5
        have kR5 := (unhide HKR4).trans k5 (by simp)
        have HO5 := hide ((unhide HO).pass (kR5.alloc (.cells #[.slice la5 ln5 lc5] 22)))
        have hg5 : g < wr.heap.size := ((unhide HO).own.lt g rfl).2
        have hg6 : w.heap.size + 1 ≤ g := ((unhide HO).own.lt g rfl).1
        have hX4 : wr.heap.size ≤ X4.heap.size := (unhide HKR4).size
        have hw5 : wr.heap.size ≤ w5.heap.size := kR5.size
        have HK5 := hide (((unhide HK4).trans k5 (by simp)).alloc (.cells #[.slice la5 ln5 lc5] 22))
        have HG5 := hide ((kR5.alloc (.cells #[.slice la5 ln5 lc5] 22)).heap (unhide HG) (by simp))
        obtain ⟨xs, hxs⟩ : ∃ xs, (tl ++ [(lo, Value.slice la ln lc)]).map (·.2) = xs := ⟨_, rfl⟩
        have HXS := hide hxs
        have HXL := hide (by rw [← hxs]; simp : xs.length = tl.length + 1)
        clear hxs n5 k5 kR5 HO HK HG HKR4 HK4 HR4
        go_wp2_with (at_builtin; refine wpList_pushV rfl _ _ rfl rfl (w5.alloc (.cells #[.slice la5 ln5 lc5] 22)) (w.heap.size + 1) (.slice (some ⟨g, 0, none⟩) n7 cap) xs (.slice la5 ln5 lc5) w5.heap.size ((unhide HO5).xs (unhide HXS)) (heap_alloc_new _ _) rfl (by have := unhide HXL; have := unhide HNN; omega) (by simp; omega) rfl rfl ?_; intro g6 cap6 w6 HO6 HG6 HH6)
        have HOV := hide ((unhide HO5).push (bs := branchB z sb M) (x := .slice la5 ln5 lc5) ((unhide HN5).1.old ((Kept.refl [] w5).alloc _) (by simp)) (fun b' hb => ⟨fun e => by have h9 := (newB_eblk (unhide HN5) b' hb).1; simp only [Value.ownBlock, Option.some.injEq] at e; omega, by have h9 := (newB_eblk (unhide HN5) b' hb).2; simp; omega⟩) (unhide HXS) (unhide HO6) (unhide HG6) (unhide HH6))
        have HK6 := hide ((unhide HK5).grown (unhide HG6) (by intro k hk; right; simp only [Value.ownBlock, Option.some.injEq] at hk; omega))
        have HG7 := hide (((Kept.refl [g] _).grown (unhide HG6) (by intro k hk; left; simp only [Value.ownBlock, Option.some.injEq] at hk; simp [hk])).heap (unhide HG5) (by simp; omega))
        go_wp2
        go_roundw
        case rel => exact ⟨j, g6, _, cap6, branchB z sb M, la5, ln5, lc5, tl ++ [(lo, .slice la ln lc)], by omega, rfl, rfl, by go_num, HOV, HI2, hide ⟨by rw [unhide HXL]; simp, by have := unhide HNN; simp; omega⟩, HK6, HG7⟩
        case measure => simp [intOf] <;> omega
end Go.Proofs.YtjafmnemobcipaaDoor
namespace Go.Proofs.YtjafmnemobcipaaDoor
open Go.RowKit Go.BigFrame
set_option linter.unusedVariables false
set_option linter.unusedSimpArgs false

theorem RdL.cells {w : World} {ao : Option Addr} {len cap : Nat} {L : List (List Nat)} (h : RdL w (.slice ao len cap) L) : L.length = len ∧ len ≤ cap ∧ cap ≤ 9223372036854775807 ∧
    ∀ i, i < len → ∃ b off u, ao = some ⟨b, off, none⟩ ∧ w.cell? ⟨b, off + i, none⟩ = some u ∧ Rd w u (L.getD i []) := by
  obtain ⟨ao', len', cap', vs, he, h0, h1, h2, h3, h4, h5⟩ := h
  cases he
  refine ⟨h1, h2, h3, fun i hi => ?_⟩
  obtain ⟨b, off, rfl, hc⟩ := h4 (by omega)
  exact ⟨b, off, _, rfl, hc i hi, h5 i hi⟩

set_option maxRecDepth 100000 in
set_option maxHeartbeats 4000000 in
theorem clash_any (z : Int) (av bv : Value) (A B : List (List Nat)) (w : World) (hw : widthB z = true) (ha : RdL w av A) (hb : RdL w bv B) (hT : Tabs w) :
    Calls Tryd.prog 8 #[.int .i64 z, av, bv] w fun e w' => e = .returned (.bool (clF z A B)) ∧ Kept [] w w' := by
  have hzw := width_le hw
  obtain ⟨aa, an, ac, avs, rfl, h9⟩ := id ha
  clear h9
  obtain ⟨ba, bn, bc, bvs, rfl, h9⟩ := id hb
  clear h9
  obtain ⟨hla, hac, hac2, HA'⟩ := ha.cells
  obtain ⟨hlb, hbc, hbc2, HB'⟩ := hb.cells
  have HA := hide HA'
  have HB := hide HB'
  have HT := hide hT
  have HLA := hide hla
  have HLB := hide hlb
  clear ha hb hT HA' HB' hla hlb
  go_enter Tryd.func8, Tryd.ntmps8
  go_wp2_with fail
  go_loopw [7] (fun t wr => ∃ (i : Nat), i ≤ an ∧ i ≤ bn ∧ t = .int .i64 i ∧ Hid (∀ j, j < i → A.getD j [] = B.getD j []) ∧ Hid (Kept [] w wr)) (fun t _ => an - (intOf t).toNat)
  case atStart => exact ⟨0, Nat.zero_le _, Nat.zero_le _, rfl, hide (by intro j hj; omega), hide (Kept.refl _ _)⟩
  case round =>
    obtain ⟨i, hia, hib, rfl, HN, HKr⟩ := hrel
    by_cases hlt : i < an
    · have hlt' : (i : Int) < an := by omega
      by_cases hltb : i < bn
      · have hltb' : (i : Int) < bn := by omega
        obtain ⟨b1, o1, u1, rfl, c1, r1⟩ := unhide HA i hlt
        obtain ⟨b2, o2, u2, rfl, c2, r2⟩ := unhide HB i hltb
        have q1 := (unhide HKr).cell c1 (by simp)
        have q2 := (unhide HKr).cell c2 (by simp)
        have HX := hide (r1.old (unhide HKr) (by simp))
        have HY := hide (r2.old (unhide HKr) (by simp))
        have HAt := hide (fun h => clF_at z A B i (unhide HN) (by rw [unhide HLA]; exact hlt) (by rw [unhide HLB]; exact hltb) h)
        clear c1 c2 r1 r2
        have HXe := hide (rfl : A.getD i [] = A.getD i [])
        generalize hXX : A.getD i [] = X at HX HAt
        generalize hYY : B.getD i [] = Y at HY HAt
        have HXX := hide hXX
        have HYY := hide hYY
        clear hXX hYY HXe
        obtain ⟨a8, m8, c8, rfl, hm8⟩ := id (unhide HX)
        obtain ⟨a9, m9, c9, rfl, hm9⟩ := id (unhide HY)
        clear hm8 hm9
        have HSM := hide (fun w' (hw' : Kept [] wr w') => (same_any (.slice a8 m8 c8) (.slice a9 m9 c9) X Y w' ((unhide HX).old hw' (by simp)) ((unhide HY).old hw' (by simp))).mono (fun e w2 (h2 : _ ∧ ∃ n, w2 = w'.drewN n) => (⟨h2.1, by obtain ⟨n, rfl⟩ := h2.2; exact hw'.drewN n⟩ : _ ∧ Kept [] wr w2)))
        have hne : ∀ p : Prop, (∀ w', Kept [] wr w' → p) = p := fun p => propext ⟨fun h => h wr (Kept.refl [] wr), fun h _ _ => h⟩
        go_wp2_with fail
        refine wp_region_keep (by kernel_rfl) (by kernel_rfl) ?_
        iterate 3 (go_big_quiet_step (fail))
        refine wpQuiet_val rfl (.slice a8 m8 c8) (fun w' hw' => by have h9 := hw'.cell q1 (by simp); go_simp) ?_
        simp only [Act.put, List.setIfInBounds_toArray, List.set_cons_succ, List.set_cons_zero]
        iterate 3 (go_big_quiet_step (fail))
        refine wpQuiet_val rfl (.slice a9 m9 c9) (fun w' hw' => by have h9 := hw'.cell q2 (by simp); go_simp) ?_
        simp only [Act.put, List.setIfInBounds_toArray, List.set_cons_succ, List.set_cons_zero]
        go_big_quiet_want
        go_big_quiet_op
        apply Exists.intro
        refine ⟨fun w' hw' => ?_, ?_⟩
        · exact unhide HSM w' hw'
        go_big_quiet_on
        repeat (go_big_quiet_step (fail))
        refine wpQuiet_nil ?_
        intro V1 k11
        have HX1 := hide ((unhide HX).old k11 (by simp))
        have HY1 := hide ((unhide HY).old k11 (by simp))
        have HK1 := hide ((unhide HKr).trans k11 (by simp))
        have p1 := k11.cell q1 (by simp)
        have p2 := k11.cell q2 (by simp)
        clear k11 HX HY q1 q2 HSM hne
        by_cases hE : X = Y
        · rw [decide_eq_true hE]
          have HN2 := hide (fun j (hj : j < i + 1) => by
            rcases Nat.lt_or_ge j i with h9 | h9
            · exact unhide HN j h9
            · obtain rfl : j = i := by omega
              rw [unhide HXX, unhide HYY]; exact hE : ∀ j, j < i + 1 → A.getD j [] = B.getD j [])
          clear hE p1 p2
          go_wp2
          go_roundw
          case rel => exact ⟨i + 1, hlt, hltb, by go_num, HN2, HK1⟩
          case measure => simp [intOf]; omega
        · rw [decide_eq_false hE]
          have HC := hide (unhide HAt hE)
          have hse : sumE z = 0 := by unfold sumE; rw [hw]; rfl
          have HSE := hide hse
          have HDX := hide (sumD_dg z X)
          have HDY := hide (sumD_dg z Y)
          clear hE hse
          go_wp2_with fail
          refine Calls.mono (dsum_all z _ [X] _ (by omega) (RdL.one (heap_alloc_new _ _) ((unhide HX1).old ((Kept.refl [] V1).alloc _) (by simp))) (by have h9 := (unhide HX1).len; simpa using h9) ((unhide HT).k ((unhide HK1).alloc _))) ?_
          rintro e w2 ⟨rfl, k2⟩
          rw [unhide HSE]
          simp only [List.flatten_cons, List.flatten_nil, List.append_nil]
          generalize sumD z X = DX at HC HDX ⊢
          obtain ⟨DY, hDY⟩ : ∃ DY, sumD z Y = DY := ⟨_, rfl⟩
          have HDYe := hide hDY
          rw [hDY] at HC HDY
          clear hDY
          have hdx := (unhide HDX).1
          have hdy := (unhide HDY).1
          have HSX := hide (Tryd.szD hdx)
          have HSY := hide (Tryd.szD hdy)
          have heq := fun W => dig_eq W DX DY hdx hdy
          obtain ⟨bb, hbb⟩ : ∃ bb, decide (DX = DY) = bb := ⟨_, rfl⟩
          rw [hbb] at heq HC
          clear hbb
          have kV := ((Kept.refl [] V1).alloc (.cells #[.slice a8 m8 c8] 22)).trans ((k2.alloc (.cells (zb 32) 29)).setRow (g := w2.heap.size) (Or.inr k2.size) (brow DX)) (by simp)
          have HN2 := hide (setRow_heap (w2.alloc (.cells (zb 32) 29)) w2.heap.size (zb 32) (brow DX) 29 (0, 0) (heap_alloc_new _ _))
          have HK2 := hide ((unhide HK1).trans kV (by simp))
          have HY2 := hide ((unhide HY1).old kV (by simp))
          have g2 := kV.cell p2 (by simp)
          clear kV k2 HY1 HX1 HK1 p1 p2
          obtain ⟨X2, hX2⟩ : ∃ X2, (w2.alloc (.cells (zb 32) 29)).setRow w2.heap.size (brow DX) = X2 := ⟨_, rfl⟩
          rw [hX2] at HN2 HK2 HY2 g2
          go_wp2_with (first
            | (rw [zb32]; refine wpList_store_row rfl 29 _ _ rfl w2.heap.size (brow DX) rfl rfl _ (zb 32) (heap_alloc_new _ _) (unhide HSX) (by rw [zb_size, brow_size, hdx]) (brow_one _) ?_; rw [hX2]))
          clear hX2
          refine Calls.mono (dsum_all z _ [Y] _ (by omega) (RdL.one (heap_alloc_new _ _) ((unhide HY2).old ((Kept.refl [] X2).alloc _) (by simp))) (by have h9 := (unhide HY2).len; simpa using h9) ((unhide HT).k ((unhide HK2).alloc _))) ?_
          rintro e w3 ⟨rfl, k3⟩
          rw [unhide HSE]
          simp only [List.flatten_cons, List.flatten_nil, List.append_nil]
          rw [unhide HDYe]
          have kM := ((Kept.refl [] X2).alloc (.cells #[.slice a9 m9 c9] 22)).trans ((k3.alloc (.cells (zb 32) 29)).setRow (g := w3.heap.size) (Or.inr k3.size) (brow DY)) (by simp)
          have HN3 := hide (setRow_heap (w3.alloc (.cells (zb 32) 29)) w3.heap.size (zb 32) (brow DY) 29 (0, 0) (heap_alloc_new _ _))
          have HK3 := hide ((unhide HK2).trans kM (by simp))
          have HM3 := hide (kM.heap (unhide HN2) (by simp))
          clear kM k3 g2 HY2 HK2 HN2
          go_wp2_with (first
            | (rw [zb32]; refine wpList_store_row rfl 29 _ _ rfl w3.heap.size (brow DY) rfl rfl _ (zb 32) (heap_alloc_new _ _) (unhide HSY) (by rw [zb_size, brow_size, hdy]) (brow_one _) ?_)
            | (refine wpList_load_row rfl 29 _ rfl w2.heap.size rfl _ (brow DX) (0, 0) _ (unhide HM3) Tryd.underlying29 rfl (unhide HSX) ?_)
            | (refine wpList_load_row rfl 29 _ rfl w3.heap.size rfl _ (brow DY) (0, 0) _ (unhide HN3) Tryd.underlying29 rfl (unhide HSY) ?_)
            | (refine wpList_load_rowG rfl 29 _ rfl w2.heap.size rfl _ (brow DX) (0, 0) _ (unhide HM3) Tryd.underlying29 rfl (unhide HSX) ?_)
            | (refine wpList_load_rowG rfl 29 _ rfl w3.heap.size rfl _ (brow DY) (0, 0) _ (unhide HN3) Tryd.underlying29 rfl (unhide HSY) ?_))
          go_ret
          rw [unhide HC]
          exact ⟨rfl, unhide HK3⟩
      · have hltb' : ¬ (i : Int) < bn := by omega
        have HC := hide (clF_end z A B (fun j h1 h2 => unhide HN j (by have := unhide HLB; omega)))
        go_wp2
        go_ret
        rw [unhide HC]
        exact ⟨rfl, unhide HKr⟩
    · have hlt' : ¬ (i : Int) < an := by omega
      have HC := hide (clF_end z A B (fun j h1 h2 => unhide HN j (by have := unhide HLA; omega)))
      go_wp2
      go_ret
      rw [unhide HC]
      exact ⟨rfl, unhide HKr⟩
end Go.Proofs.YtjafmnemobcipaaDoor
/-
  Laws for drawn regions, by genreg.py. No program.
-/
namespace Go.Proofs.YtjafmnemobcipaaDoor
open Go Go.RowKit Go.BigFrame
set_option linter.unusedVariables false
set_option linter.unusedSimpArgs false
section
variable {P : Program} {Q : Exit → Act → World → Prop}
theorem wp_bi11 {id : Nat} {o0 o1 o2 o3 o4 o5 o6 o7 o8 o9 o10 : Oper} {a : Act} {w : World} (hm : P.follows .mixedOrders = true) (hs : Region.noSelect #[o0, o1, o2, o3, o4, o5, o6, o7, o8, o9, o10] = true)
    (f0 : Region.free .any #[o0, o1, o2, o3, o4, o5, o6, o7, o8, o9, o10] #[false, false, false, false, false, false, false, false, false, false, false] 0 = true) (r0 : (Region.ready .any #[o0, o1, o2, o3, o4, o5, o6, o7, o8, o9, o10] #[false, false, false, false, false, false, false, false, false, false, false]).contains 0 = true)
    (f1 : Region.free .any #[o0, o1, o2, o3, o4, o5, o6, o7, o8, o9, o10] #[true, false, false, false, false, false, false, false, false, false, false] 1 = true) (r1 : (Region.ready .any #[o0, o1, o2, o3, o4, o5, o6, o7, o8, o9, o10] #[true, false, false, false, false, false, false, false, false, false, false]).contains 1 = true)
    (f2 : Region.free .any #[o0, o1, o2, o3, o4, o5, o6, o7, o8, o9, o10] #[true, true, false, false, false, false, false, false, false, false, false] 2 = true) (r2 : (Region.ready .any #[o0, o1, o2, o3, o4, o5, o6, o7, o8, o9, o10] #[true, true, false, false, false, false, false, false, false, false, false]).contains 2 = true)
    (f3 : Region.free .any #[o0, o1, o2, o3, o4, o5, o6, o7, o8, o9, o10] #[true, true, true, false, false, false, false, false, false, false, false] 3 = true) (r3 : (Region.ready .any #[o0, o1, o2, o3, o4, o5, o6, o7, o8, o9, o10] #[true, true, true, false, false, false, false, false, false, false, false]).contains 3 = true)
    (f5 : Region.free .any #[o0, o1, o2, o3, o4, o5, o6, o7, o8, o9, o10] #[true, true, true, true, false, false, false, false, false, false, false] 5 = true) (r5 : (Region.ready .any #[o0, o1, o2, o3, o4, o5, o6, o7, o8, o9, o10] #[true, true, true, true, false, false, false, false, false, false, false]).contains 5 = true)
    (f6 : Region.free .any #[o0, o1, o2, o3, o4, o5, o6, o7, o8, o9, o10] #[true, true, true, true, false, true, false, false, false, false, false] 6 = true) (r6 : (Region.ready .any #[o0, o1, o2, o3, o4, o5, o6, o7, o8, o9, o10] #[true, true, true, true, false, true, false, false, false, false, false]).contains 6 = true)
    (f7 : Region.free .any #[o0, o1, o2, o3, o4, o5, o6, o7, o8, o9, o10] #[true, true, true, true, false, true, true, false, false, false, false] 7 = true) (r7 : (Region.ready .any #[o0, o1, o2, o3, o4, o5, o6, o7, o8, o9, o10] #[true, true, true, true, false, true, true, false, false, false, false]).contains 7 = true)
    (q_ : Region.ready .any #[o0, o1, o2, o3, o4, o5, o6, o7, o8, o9, o10] #[true, true, true, true, false, true, true, true, false, false, false] = [4])
    (q4_ : Region.ready .any #[o0, o1, o2, o3, o4, o5, o6, o7, o8, o9, o10] #[true, true, true, true, true, true, true, true, false, false, false] = [8])
    (q4_8_ : Region.ready .any #[o0, o1, o2, o3, o4, o5, o6, o7, o8, o9, o10] #[true, true, true, true, true, true, true, true, true, false, false] = [9])
    (f4_8_9_10 : Region.free .any #[o0, o1, o2, o3, o4, o5, o6, o7, o8, o9, o10] #[true, true, true, true, true, true, true, true, true, true, false] 10 = true) (r4_8_9_10 : (Region.ready .any #[o0, o1, o2, o3, o4, o5, o6, o7, o8, o9, o10] #[true, true, true, true, true, true, true, true, true, true, false]).contains 10 = true)
    (q4_8_9_ : Region.ready .any #[o0, o1, o2, o3, o4, o5, o6, o7, o8, o9, o10] #[true, true, true, true, true, true, true, true, true, true, true] = [])
    (g4 : o4.guard = none)    (g8 : o8.guard = none)    (g9 : o9.guard = none)
    (v0 v1 v2 v3 v5 v6 v7 : Value) (A0 A1 A2 A3 A4 A5 A6 : Act)
    (S : World → Prop)
    (I_ : World → Prop)
    (I4_ : Value → World → Prop)
    (I4_8_ : Value → Value → World → Prop)
    (I4_8_9_ : Value → Value → Value → World → Prop)
    (v10 : Value → Value)
    (p0 : a.put o0.dst v0 = A0) (hy0 : YieldsIf P #[o0, o1, o2, o3, o4, o5, o6, o7, o8, o9, o10] S o0 v0 a)
    (p1 : A0.put o1.dst v1 = A1) (hy1 : YieldsIf P #[o0, o1, o2, o3, o4, o5, o6, o7, o8, o9, o10] S o1 v1 A0)
    (p2 : A1.put o2.dst v2 = A2) (hy2 : YieldsIf P #[o0, o1, o2, o3, o4, o5, o6, o7, o8, o9, o10] S o2 v2 A1)
    (p3 : A2.put o3.dst v3 = A3) (hy3 : YieldsIf P #[o0, o1, o2, o3, o4, o5, o6, o7, o8, o9, o10] S o3 v3 A2)
    (p5 : A3.put o5.dst v5 = A4) (hy5 : YieldsIf P #[o0, o1, o2, o3, o4, o5, o6, o7, o8, o9, o10] S o5 v5 A3)
    (p6 : A4.put o6.dst v6 = A5) (hy6 : YieldsIf P #[o0, o1, o2, o3, o4, o5, o6, o7, o8, o9, o10] S o6 v6 A4)
    (p7 : A5.put o7.dst v7 = A6) (hy7 : YieldsIf P #[o0, o1, o2, o3, o4, o5, o6, o7, o8, o9, o10] S o7 v7 A5)
    (i0 : I_ w.drew)
    (hIS : (∀ w', I_  w' → S w') ∧ (∀ (u4 : Value) w', I4_ u4 w' → S w') ∧ (∀ (u4 u8 : Value) w', I4_8_ u4 u8 w' → S w') ∧ (∀ (u4 u8 u9 : Value) w', I4_8_9_ u4 u8 u9 w' → S w'))
    (s_4 : ∀ w', I_  w' → ∀ K : Act → World → Prop, (∀ (u4 : Value) w2, I4_ u4 w2 → K (A6.put o4.dst u4) w2) → o4.wp P A6 w' K (NoPanic Q))
    (s4_8 : ∀ (u4 : Value) w', I4_ u4 w' → ∀ K : Act → World → Prop, (∀ (u8 : Value) w2, I4_8_ u4 u8 w2 → K ((A6.put o4.dst u4).put o8.dst u8) w2) → o8.wp P (A6.put o4.dst u4) w' K (NoPanic Q))
    (s4_8_9 : ∀ (u4 u8 : Value) w', I4_8_ u4 u8 w' → ∀ K : Act → World → Prop, (∀ (u9 : Value) w2, I4_8_9_ u4 u8 u9 w2 → K (((A6.put o4.dst u4).put o8.dst u8).put o9.dst u9) w2) → o9.wp P ((A6.put o4.dst u4).put o8.dst u8) w' K (NoPanic Q))
    (y4_8_9_10 : ∀ (u4 u8 u9 : Value) w', I4_8_9_ u4 u8 u9 w' → YieldsIf P #[o0, o1, o2, o3, o4, o5, o6, o7, o8, o9, o10] S o10 (v10 u9) (((A6.put o4.dst u4).put o8.dst u8).put o9.dst u9))
    (h : ∀ (u4 u8 u9 : Value) w', I4_8_9_ u4 u8 u9 w' → Q .normal ((((A6.put o4.dst u4).put o8.dst u8).put o9.dst u9).put o10.dst (v10 u9)) w') :
    (Code.region id #[o0, o1, o2, o3, o4, o5, o6, o7, o8, o9, o10] true).wp P Q a w := by
  subst p0 p1 p2 p3 p5 p6 p7
  obtain ⟨z_, z4_, z4_8_, z4_8_9_⟩ := hIS
  refine wp_region_noPanic ?_
  refine wp_region_held_drew (S := S) hm (z_ _ i0) (fun hH => ?_)
  show wpAnyH P .any #[o0, o1, o2, o3, o4, o5, o6, o7, o8, o9, o10] (NoPanic Q) S 11 #[false, false, false, false, false, false, false, false, false, false, false] a w.drew
  refine wpAnyH_take (i := 0) (oi := o0) rfl hs f0 r0 (fun _ _ _ h => h) hy0 hH ?_
  refine wpAnyH_take (i := 1) (oi := o1) rfl hs f1 r1 (fun _ _ _ h => h) hy1 hH ?_
  refine wpAnyH_take (i := 2) (oi := o2) rfl hs f2 r2 (fun _ _ _ h => h) hy2 hH ?_
  refine wpAnyH_take (i := 3) (oi := o3) rfl hs f3 r3 (fun _ _ _ h => h) hy3 hH ?_
  refine wpAnyH_take (i := 5) (oi := o5) rfl hs f5 r5 (fun _ _ _ h => h) hy5 hH ?_
  refine wpAnyH_take (i := 6) (oi := o6) rfl hs f6 r6 (fun _ _ _ h => h) hy6 hH ?_
  refine wpAnyH_take (i := 7) (oi := o7) rfl hs f7 r7 (fun _ _ _ h => h) hy7 hH ?_
  generalize (((((((a.put o0.dst v0).put o1.dst v1).put o2.dst v2).put o3.dst v3).put o5.dst v5).put o6.dst v6).put o7.dst v7) = B at *
  have wa4 : ∀ y, Region.wanted o4 y = true := fun y => by unfold Region.wanted; rw [g4]
  have wa8 : ∀ y, Region.wanted o8 y = true := fun y => by unfold Region.wanted; rw [g8]
  have wa9 : ∀ y, Region.wanted o9 y = true := fun y => by unfold Region.wanted; rw [g9]
  have t4_8_9_ : ∀ (u4 u8 u9 : Value) w', I4_8_9_ u4 u8 u9 w' → wpAnyH P .any #[o0, o1, o2, o3, o4, o5, o6, o7, o8, o9, o10] (NoPanic Q) S 0 #[true, true, true, true, true, true, true, true, true, true, true] ((((B.put o4.dst u4).put o8.dst u8).put o9.dst u9).put o10.dst (v10 u9)) w' := by
    intro u4 u8 u9 w0 i0
    exact ⟨q4_8_9_, NoPanic.normal (h u4 u8 u9 w0 i0)⟩
  have t4_8_ : ∀ (u4 u8 : Value) w', I4_8_ u4 u8 w' → wpAnyH P .any #[o0, o1, o2, o3, o4, o5, o6, o7, o8, o9, o10] (NoPanic Q) S 2 #[true, true, true, true, true, true, true, true, true, false, false] ((B.put o4.dst u4).put o8.dst u8) w' := by
    intro u4 u8 w0 i0
    refine wpAnyH_ready (rs := [9]) q4_8_ (by simp) (AllReadyH.cons (o := o9) rfl (fun K hK => ?_) AllReadyH.nil)
    · rw [if_pos (wa9 _)]
      refine s4_8_9 u4 u8 w0 i0 K (fun u9 w1 i1 => hK.out _ _ (z4_8_9_ u4 u8 u9 w1 i1) (fun _ => ?_))
      clear hK
      refine wpAnyH_take (i := 10) (oi := o10) rfl hs f4_8_9_10 r4_8_9_10 (fun _ _ _ h => h) (y4_8_9_10 u4 u8 u9 w1 i1) (z4_8_9_ u4 u8 u9 w1 i1) ?_
      exact t4_8_9_ u4 u8 u9 w1 i1
  have t4_ : ∀ (u4 : Value) w', I4_ u4 w' → wpAnyH P .any #[o0, o1, o2, o3, o4, o5, o6, o7, o8, o9, o10] (NoPanic Q) S 3 #[true, true, true, true, true, true, true, true, false, false, false] (B.put o4.dst u4) w' := by
    intro u4 w0 i0
    refine wpAnyH_ready (rs := [8]) q4_ (by simp) (AllReadyH.cons (o := o8) rfl (fun K hK => ?_) AllReadyH.nil)
    · rw [if_pos (wa8 _)]
      refine s4_8 u4 w0 i0 K (fun u8 w1 i1 => hK.out _ _ (z4_8_ u4 u8 w1 i1) (fun _ => ?_))
      clear hK
      exact t4_8_ u4 u8 w1 i1
  have t_ : ∀ w', I_  w' → wpAnyH P .any #[o0, o1, o2, o3, o4, o5, o6, o7, o8, o9, o10] (NoPanic Q) S 4 #[true, true, true, true, false, true, true, true, false, false, false] B w' := by
    intro w0 i0
    refine wpAnyH_ready (rs := [4]) q_ (by simp) (AllReadyH.cons (o := o4) rfl (fun K hK => ?_) AllReadyH.nil)
    · rw [if_pos (wa4 _)]
      refine s_4  w0 i0 K (fun u4 w1 i1 => hK.out _ _ (z4_ u4 w1 i1) (fun _ => ?_))
      clear hK
      exact t4_ u4 w1 i1
  exact t_ w.drew i0

end
end Go.Proofs.YtjafmnemobcipaaDoor
namespace Go.Proofs.YtjafmnemobcipaaDoor
open Go.RowKit Go.BigFrame
set_option linter.unusedVariables false
set_option linter.unusedSimpArgs false

theorem RdS.small {w : World} {v : Value} {ss : List (Nat × List (List Nat))} (h : RdS w v ss) : (∀ s ∈ ss, s.1 < 65536) ∧ ∀ s ∈ ss, ∀ d ∈ s.2, d.length = 32 := by
  obtain ⟨_, len, _, vs, _, h1, _, _, h4, _⟩ := h
  have key : ∀ s ∈ ss, s.1 < 65536 ∧ ∀ d ∈ s.2, d.length = 32 := by
    intro s hs
    obtain ⟨i, hi, rfl⟩ := List.getElem_of_mem hs
    have h9 := h4 i (by omega)
    rw [List.getD_eq_getElem?_getD (l := ss), List.getElem?_eq_getElem hi] at h9
    exact ⟨h9.1, fun d hd => (h9.2.digs d hd).1⟩
  exact ⟨fun s hs => (key s hs).1, fun s hs => (key s hs).2⟩

set_option maxRecDepth 100000 in
set_option maxHeartbeats 4000000 in
theorem hcheckBinds_walk (z : Int) (kv : Value) (key : List Nat) (ss : List (Nat × List (List Nat))) (ps : List (List Nat × List Nat)) (tt : List (Nat × List (List Nat))) (qs : List (List Nat × List Nat)) (sv pv tv qv : Value) (w : World) (hz : -9223372036854775808 ≤ z ∧ z ≤ 9223372036854775807) (hk : Rd w kv key) (hkl : key.length ≤ 1048576) (hA : OkP w ss ps sv pv) (hB : OkP w tt qs tv qv) (hT : Tabs w) :
    Calls Tryd.prog 3 #[.int .i64 z, kv, .agg #[sv, pv], .agg #[tv, qv]] w fun e w' => e = .returned (.bool true) ∧ Below w.heap.size w w' := by
  have HT := hide hT
  have HA := hide hA
  have HB := hide hB
  have HKY := hide hk
  obtain ⟨ka, kn, kc, rfl, _⟩ := id hk
  obtain ⟨sa, sn, sc, _, rfl, _⟩ := id hA.s
  obtain ⟨pa, pn, pc, _, _, rfl, _⟩ := id hA.p
  obtain ⟨ta, tn, tc, _, rfl, _⟩ := id hB.s
  obtain ⟨qa, qn, qc, _, _, rfl, _⟩ := id hB.p
  clear hT hk hA hB
  have HRA := hide (fun w0 (hw0 : Kept [] w w0) => hrootOf_any z (.slice ka kn kc) key (.slice sa sn sc) (.slice pa pn pc) ss ps w0 hz ((unhide HKY).old hw0 (by simp)) ((unhide HA).s.old hw0) ((unhide HA).p.old hw0) ((unhide HT).k hw0) (unhide HA).pb (unhide HA).s9 (unhide HA).p9 (unhide HA).k9)
  have HRB := hide (fun w0 (hw0 : Kept [] w w0) => hrootOf_any z (.slice ka kn kc) key (.slice ta tn tc) (.slice qa qn qc) tt qs w0 hz ((unhide HKY).old hw0 (by simp)) ((unhide HB).s.old hw0) ((unhide HB).p.old hw0) ((unhide HT).k hw0) (unhide HB).pb (unhide HB).s9 (unhide HB).p9 (unhide HB).k9)
  have HIA := hide (fun (h : rtE z key ss ps = 0) w0 (hw0 : Kept [] w w0) => inputs_any z (.slice ka kn kc) key (.slice sa sn sc) (.slice pa pn pc) ss ps w0 (Pth.of h (unhide HA).s.small.1 (unhide HA).s.small.2) (hfE_zero (rtE_zero h).1).2 ((unhide HKY).old hw0 (by simp)) ((unhide HA).s.old hw0) ((unhide HA).p.old hw0) ((unhide HT).k hw0) (unhide HA).pb)
  have HIB := hide (fun (h : rtE z key tt qs = 0) w0 (hw0 : Kept [] w w0) => inputs_any z (.slice ka kn kc) key (.slice ta tn tc) (.slice qa qn qc) tt qs w0 (Pth.of h (unhide HB).s.small.1 (unhide HB).s.small.2) (hfE_zero (rtE_zero h).1).2 ((unhide HKY).old hw0 (by simp)) ((unhide HB).s.old hw0) ((unhide HB).p.old hw0) ((unhide HT).k hw0) (unhide HB).pb)
  have HBI := hide (fun (h : rtE z key ss ps = 0) (g : rtE z key tt qs = 0) (he : rtD z key ss ps = rtD z key tt qs) => (by
    have h9 := binds (z := z) (key := key) (Pth.of h (unhide HA).s.small.1 (unhide HA).s.small.2) (Pth.of g (unhide HB).s.small.1 (unhide HB).s.small.2) (by have h8 := he; unfold rtD at h8; rw [if_pos h, if_pos g] at h8; exact h8)
    have e1 : rtV z key ss ps = valH key ps := by unfold rtV; rw [if_pos h]
    have e2 : rtV z key tt qs = valH key qs := by unfold rtV; rw [if_pos g]
    rw [e1, e2]; exact h9 : rtV z key ss ps = rtV z key tt qs ∨ clF z (inpA z key ss ps) (inpA z key tt qs) = true))
  have HWD := hide (fun (h : rtE z key ss ps = 0) => (hfE_zero (rtE_zero h).1).1)
  have HDA := hide (rtD_dg z key ss ps)
  have HDB := hide (rtD_dg z key tt qs)
  generalize rtD z key ss ps = D at *
  generalize rtV z key ss ps = V at *
  generalize rtE z key ss ps = E at *
  generalize rtD z key tt qs = C at *
  generalize rtV z key tt qs = U at *
  generalize rtE z key tt qs = F at *
  generalize inpA z key ss ps = IA at *
  generalize inpA z key tt qs = IB at *
  have hdl := (unhide HDA).1
  have hcl := (unhide HDB).1
  have HSD := hide (Tryd.szD hdl)
  have HSC := hide (Tryd.szD hcl)
  have HK0 := hide (((Kept.refl [] w).alloc (.cells #[.slice sa sn sc, .slice pa pn pc] 26)).alloc (.cells #[.slice ta tn tc, .slice qa qn qc] 26))
  have HP0 := hide (heap_alloc2_old w (.cells #[.slice sa sn sc, .slice pa pn pc] 26) (.cells #[.slice ta tn tc, .slice qa qn qc] 26))
  have HQ0 := hide (heap_alloc2_new w (.cells #[.slice sa sn sc, .slice pa pn pc] 26) (.cells #[.slice ta tn tc, .slice qa qn qc] 26))
  obtain ⟨W, hW⟩ : ∃ W, (w.alloc (.cells #[.slice sa sn sc, .slice pa pn pc] 26)).alloc (.cells #[.slice ta tn tc, .slice qa qn qc] 26) = W := ⟨_, rfl⟩
  rw [hW] at HK0 HP0 HQ0
  go_enter Tryd.func3, Tryd.ntmps3
  go_wp2_with (rw [hW])
  clear hW
  refine Calls.mono (hawake_any W ((unhide HT).k (unhide HK0))) ?_
  rintro e w1 ⟨rfl, k1⟩
  have HP1 := hide (k1.heap (unhide HP0) (by simp))
  have HQ1 := hide (k1.heap (unhide HQ0) (by simp))
  have HK1 := hide ((unhide HK0).trans k1 (by simp))
  clear HP0 HQ0 HK0 k1
  go_wp2_with (refine wpList_load_row rfl 26 _ rfl w.heap.size rfl _ #[.slice sa sn sc, .slice pa pn pc] (0, 0) _ (unhide HP1) Tryd.underlying26 rfl (by kernel_rfl) ?_)
  refine Calls.mono (unhide HRA w1 (unhide HK1)) ?_
  rintro e w2 ⟨⟨v2, rfl, r2⟩, k2⟩
  have HV2 := hide r2
  obtain ⟨va, vn, vc, rfl, _⟩ := id r2
  clear r2
  have kN := (k2.alloc (.cells (zb 32) 29)).setRow (g := w2.heap.size) (Or.inr k2.size) (brow D)
  have kS := ((Kept.refl [] w2).alloc (.cells (zb 32) 29)).setRow (g := w2.heap.size) (Or.inr (Nat.le_refl _)) (brow D)
  have HX2 := hide (setRow_heap (w2.alloc (.cells (zb 32) 29)) w2.heap.size (zb 32) (brow D) 29 (0, 0) (heap_alloc_new _ _))
  have HP2 := hide (kN.heap (unhide HP1) (by simp))
  have HQ2 := hide (kN.heap (unhide HQ1) (by simp))
  have HK2 := hide ((unhide HK1).trans kN (by simp))
  have HV3 := hide ((unhide HV2).old kS (by simp))
  obtain ⟨X, hX⟩ : ∃ X, (w2.alloc (.cells (zb 32) 29)).setRow w2.heap.size (brow D) = X := ⟨_, rfl⟩
  rw [hX] at HX2 HP2 HQ2 HK2 HV3
  clear kN kS k2 HP1 HQ1 HK1 HV2 HRA
  go_wp2_with (first
    | (rw [zb32]; refine wpList_store_row rfl 29 _ _ rfl w2.heap.size (brow D) rfl rfl _ (zb 32) (heap_alloc_new _ _) (unhide HSD) (by rw [zb_size, brow_size, hdl]) (brow_one _) ?_; rw [hX])
    | (refine wpList_load_row rfl 26 _ rfl (w.heap.size + 1) rfl _ #[.slice ta tn tc, .slice qa qn qc] (0, 0) _ (unhide HQ2) Tryd.underlying26 rfl (by kernel_rfl) ?_))
  clear hX
  refine Calls.mono (unhide HRB X (unhide HK2)) ?_
  rintro e w3 ⟨⟨v3, rfl, r3⟩, k3⟩
  have HU3 := hide r3
  obtain ⟨ua, un, uc, rfl, h9⟩ := id r3
  clear r3 h9
  have kN := (k3.alloc (.cells (zb 32) 29)).setRow (g := w3.heap.size) (Or.inr k3.size) (brow C)
  have kS := ((Kept.refl [] w3).alloc (.cells (zb 32) 29)).setRow (g := w3.heap.size) (Or.inr (Nat.le_refl _)) (brow C)
  have HY4 := hide (setRow_heap (w3.alloc (.cells (zb 32) 29)) w3.heap.size (zb 32) (brow C) 29 (0, 0) (heap_alloc_new _ _))
  have HX4 := hide (kN.heap (unhide HX2) (by simp))
  have HP4 := hide (kN.heap (unhide HP2) (by simp))
  have HQ4 := hide (kN.heap (unhide HQ2) (by simp))
  have HK4 := hide ((unhide HK2).trans kN (by simp))
  have HV4 := hide ((unhide HV3).old kN (by simp))
  have HU4 := hide ((unhide HU3).old kS (by simp))
  obtain ⟨Y, hY⟩ : ∃ Y, (w3.alloc (.cells (zb 32) 29)).setRow w3.heap.size (brow C) = Y := ⟨_, rfl⟩
  rw [hY] at HY4 HX4 HP4 HQ4 HK4 HV4 HU4
  clear kN kS k3 HX2 HP2 HQ2 HK2 HV3 HU3 HRB
  have hkb : Below w.heap.size w Y := (unhide HK4).below (Nat.le_refl _) (by simp)
  have HBL := hide hkb
  clear hkb
  by_cases hE : E = 0
  · by_cases hF : F = 0
    · subst hE
      subst hF
      have heq := fun W => dig_eq W C D hcl hdl
      by_cases hCD : C = D
      · have HB2 := hide (unhide HBI rfl rfl hCD.symm)
        rw [decide_eq_true hCD] at heq
        clear hCD HBI
        by_cases hVU : V = U
        · subst hVU
          clear HB2 HIA HIB
          go_wp2_with (first
            | (rw [zb32]; refine wpList_store_row rfl 29 _ _ rfl w3.heap.size (brow C) rfl rfl _ (zb 32) (heap_alloc_new _ _) (unhide HSC) (by rw [zb_size, brow_size, hcl]) (brow_one _) ?_; rw [hY])
            | (refine wpList_load_row rfl 29 _ rfl w3.heap.size rfl _ (brow C) (0, 0) _ (unhide HY4) Tryd.underlying29 rfl (unhide HSC) ?_)
            | (refine wpList_load_rowG rfl 29 _ rfl w3.heap.size rfl _ (brow C) (0, 0) _ (unhide HY4) Tryd.underlying29 rfl (unhide HSC) ?_)
            | (refine wpList_load_row rfl 29 _ rfl w2.heap.size rfl _ (brow D) (0, 0) _ (unhide HX4) Tryd.underlying29 rfl (unhide HSD) ?_)
            | (refine wpList_load_rowG rfl 29 _ rfl w2.heap.size rfl _ (brow D) (0, 0) _ (unhide HX4) Tryd.underlying29 rfl (unhide HSD) ?_))
          refine Calls.mono (same_any _ _ (V.getD []) (V.getD []) _ (unhide HU4) (unhide HV4)) ?_
          rintro e w5 ⟨rfl, n5, rfl⟩
          rw [decide_eq_true rfl]
          have HB5 := hide (((unhide HK4).drewN n5).below (Nat.le_refl _) (by simp) : Below w.heap.size w (Y.drewN n5))
          go_wp2
          go_ret
          exact ⟨by simp, unhide HB5⟩
        · have HCL := hide ((unhide HB2).resolve_left hVU)
          have HIA2 := hide (unhide HIA rfl)
          have HIB2 := hide (unhide HIB rfl)
          have HW2 := hide (unhide HWD rfl)
          have HNE := hide hVU
          clear hVU HB2 HIA HIB HWD
          cases hbs : (V.isSome == U.isSome)
          case' true =>
            have HSM := hide (fun h => unhide HNE (by
              rw [beq_iff_eq] at hbs
              cases V with
              | none => cases U with
                | none => rfl
                | some u => simp at hbs
              | some v => cases U with
                | none => simp at hbs
                | some u => simp at h; rw [h]) : U.getD [] ≠ V.getD [])
            go_wp2_with (first
              | (rw [zb32]; refine wpList_store_row rfl 29 _ _ rfl w3.heap.size (brow C) rfl rfl _ (zb 32) (heap_alloc_new _ _) (unhide HSC) (by rw [zb_size, brow_size, hcl]) (brow_one _) ?_; rw [hY])
              | (refine wpList_load_row rfl 29 _ rfl w3.heap.size rfl _ (brow C) (0, 0) _ (unhide HY4) Tryd.underlying29 rfl (unhide HSC) ?_)
              | (refine wpList_load_rowG rfl 29 _ rfl w3.heap.size rfl _ (brow C) (0, 0) _ (unhide HY4) Tryd.underlying29 rfl (unhide HSC) ?_)
              | (refine wpList_load_row rfl 29 _ rfl w2.heap.size rfl _ (brow D) (0, 0) _ (unhide HX4) Tryd.underlying29 rfl (unhide HSD) ?_)
              | (refine wpList_load_rowG rfl 29 _ rfl w2.heap.size rfl _ (brow D) (0, 0) _ (unhide HX4) Tryd.underlying29 rfl (unhide HSD) ?_))
            refine Calls.mono (same_any _ _ (U.getD []) (V.getD []) _ (unhide HU4) (unhide HV4)) ?_
            rintro e w5 ⟨rfl, n5, rfl⟩
            rw [decide_eq_false (unhide HSM)]
            have HKZ := hide ((Kept.refl [] Y).drewN n5)
            go_wp2_with fail
            obtain ⟨Z, hZ⟩ : ∃ Z, Y.drewN n5 = Z := ⟨_, rfl⟩
            rw [hZ] at HKZ ⊢
            clear hZ
          case' false =>
            go_wp2_with (first
              | (rw [zb32]; refine wpList_store_row rfl 29 _ _ rfl w3.heap.size (brow C) rfl rfl _ (zb 32) (heap_alloc_new _ _) (unhide HSC) (by rw [zb_size, brow_size, hcl]) (brow_one _) ?_; rw [hY])
              | (refine wpList_load_row rfl 29 _ rfl w3.heap.size rfl _ (brow C) (0, 0) _ (unhide HY4) Tryd.underlying29 rfl (unhide HSC) ?_)
              | (refine wpList_load_rowG rfl 29 _ rfl w3.heap.size rfl _ (brow C) (0, 0) _ (unhide HY4) Tryd.underlying29 rfl (unhide HSC) ?_)
              | (refine wpList_load_row rfl 29 _ rfl w2.heap.size rfl _ (brow D) (0, 0) _ (unhide HX4) Tryd.underlying29 rfl (unhide HSD) ?_)
              | (refine wpList_load_rowG rfl 29 _ rfl w2.heap.size rfl _ (brow D) (0, 0) _ (unhide HX4) Tryd.underlying29 rfl (unhide HSD) ?_))
            have HKZ := hide (Kept.refl [] Y)
            obtain ⟨Z, hZ⟩ : ∃ Z, Z = Y := ⟨_, rfl⟩
            rw [← hZ]
            rw [← hZ] at HKZ
            have HKZ := hide (by rw [hZ]; exact Kept.refl [] Y : Kept [] Y Z)
            clear hZ
          all_goals
            have HPZ := hide ((unhide HKZ).heap (unhide HP4) (by simp))
            have HQZ := hide ((unhide HKZ).heap (unhide HQ4) (by simp))
            have HK5 := hide ((unhide HK4).trans (unhide HKZ) (by simp))
            have HLA := hide (fun w' (hw' : Kept [] Z w') => unhide HIA2 w' ((unhide HK5).trans hw' (by simp)))
            have HLB := hide (fun w' (hw' : Kept [] Z w') => unhide HIB2 w' ((unhide HK5).trans hw' (by simp)))
            have HLC := hide (fun w' (hw' : Kept [] Z w') a b (ha : RdL w' a IA) (hb : RdL w' b IB) => clash_any z a b IA IB w' (unhide HW2) ha hb ((unhide HT).k ((unhide HK5).trans hw' (by simp))))
            rw [unhide HCL] at HLC
            have r0 := cell_of_row _ _ 0 _ _ _ (unhide HPZ)
            have r1 := cell_of_row _ _ 1 _ _ _ (unhide HPZ)
            have t0 := cell_of_row _ _ 0 _ _ _ (unhide HQZ)
            have t1 := cell_of_row _ _ 1 _ _ _ (unhide HQZ)
            simp only [List.getElem?_toArray, List.getElem?_cons_zero, List.getElem?_cons_succ] at r0 r1 t0 t1
            refine wp_bi11 (by kernel_rfl) (by kernel_rfl) (by kernel_rfl) (by kernel_rfl) (by kernel_rfl) (by kernel_rfl) (by kernel_rfl) (by kernel_rfl) (by kernel_rfl) (by kernel_rfl) (by kernel_rfl) (by kernel_rfl) (by kernel_rfl) (by kernel_rfl) (by kernel_rfl) (by kernel_rfl) (by kernel_rfl) (by kernel_rfl) (by kernel_rfl) (by kernel_rfl) (by kernel_rfl) (by kernel_rfl) rfl rfl rfl
              (.int .i64 z) (.int .i64 z) (.slice ka kn kc) (.agg #[.slice sa sn sc, .slice pa pn pc]) (.int .i64 z) (.slice ka kn kc) (.agg #[.slice ta tn tc, .slice qa qn qc]) _ _ _ _ _ _ _
              (fun w' => Kept [] Z w')
              (fun w' => Kept [] Z w')
              (fun u4 w' => RdL w' u4 IA ∧ Kept [] Z w')
              (fun u4 u8 w' => RdL w' u4 IA ∧ RdL w' u8 IB ∧ Kept [] Z w')
              (fun u4 u8 u9 w' => u9 = .bool true ∧ Kept [] Z w')
              (fun u => u)
              (by simp only [Act.put, List.setIfInBounds_toArray, List.set_cons_zero, List.set_cons_succ]; rfl) (by exact Or.inl ⟨by rfl, fun W' hW' => by go_simp⟩)
              (by simp only [Act.put, List.setIfInBounds_toArray, List.set_cons_zero, List.set_cons_succ]; rfl) (by exact Or.inl ⟨by rfl, fun W' hW' => by go_simp⟩)
              (by simp only [Act.put, List.setIfInBounds_toArray, List.set_cons_zero, List.set_cons_succ]; rfl) (by exact Or.inl ⟨by rfl, fun W' hW' => by go_simp⟩)
              (by simp only [Act.put, List.setIfInBounds_toArray, List.set_cons_zero, List.set_cons_succ]; rfl) (by exact Or.inl ⟨by rfl, fun W' hW' => by have h9 := hW'.cell r0 (by simp); have h8 := hW'.cell r1 (by simp); go_simp⟩)
              (by simp only [Act.put, List.setIfInBounds_toArray, List.set_cons_zero, List.set_cons_succ]; rfl) (by exact Or.inl ⟨by rfl, fun W' hW' => by go_simp⟩)
              (by simp only [Act.put, List.setIfInBounds_toArray, List.set_cons_zero, List.set_cons_succ]; rfl) (by exact Or.inl ⟨by rfl, fun W' hW' => by go_simp⟩)
              (by simp only [Act.put, List.setIfInBounds_toArray, List.set_cons_zero, List.set_cons_succ]; rfl) (by exact Or.inl ⟨by rfl, fun W' hW' => by have h9 := hW'.cell t0 (by simp); have h8 := hW'.cell t1 (by simp); go_simp⟩)
              (Kept.refl [] Z).drew
              ⟨fun w' h => h, fun u4 w' h => h.2, fun u4 u8 w' h => h.2.2, fun u4 u8 u9 w' h => h.2⟩
              (by
                intro w' i K hK
                refine wp_callN rfl Tryd.call9 [.int .i64 z, .slice ka kn kc, .agg #[.slice sa sn sc, .slice pa pn pc]] rfl (unhide HLA w' i) ?_
                rintro e w2 ⟨⟨v', rfl, hv⟩, kv⟩
                exact ⟨_, rfl, hK _ _ ⟨hv, i.trans kv (by simp)⟩⟩)
              (by
                rintro u4 w' ⟨h4, i⟩ K hK
                refine wp_callN rfl Tryd.call9 [.int .i64 z, .slice ka kn kc, .agg #[.slice ta tn tc, .slice qa qn qc]] rfl (unhide HLB w' i) ?_
                rintro e w2 ⟨⟨v', rfl, hv⟩, kv⟩
                exact ⟨_, rfl, hK _ _ ⟨h4.old kv, hv, i.trans kv (by simp)⟩⟩)
              (by
                rintro u4 u8 w' ⟨h4, h8, i⟩ K hK
                refine wp_callN rfl Tryd.call8 [.int .i64 z, u4, u8] rfl (unhide HLC w' i u4 u8 h4 h8) ?_
                rintro e w2 ⟨rfl, kv⟩
                exact ⟨_, rfl, hK _ _ ⟨rfl, i.trans kv (by simp)⟩⟩)
              (by rintro u4 u8 u9 w' ⟨rfl, _⟩; exact Or.inl ⟨by rfl, fun W' hW' => by go_simp⟩)
              ?_
            rintro u4 u8 u9 Z2 ⟨rfl, kZ2⟩
            simp only [Act.put, List.setIfInBounds_toArray, List.set_cons_zero, List.set_cons_succ]
            have HB9 := hide (((unhide HK5).trans kZ2 (by simp)).below (Nat.le_refl _) (by simp) : Below w.heap.size w Z2)
            clear r0 r1 t0 t1 kZ2
            go_wp2_with fail
            go_ret
            exact ⟨rfl, unhide HB9⟩
      · rw [decide_eq_false hCD] at heq
        clear hCD HBI HIA HIB HWD
        go_wp2_with (first
          | (rw [zb32]; refine wpList_store_row rfl 29 _ _ rfl w3.heap.size (brow C) rfl rfl _ (zb 32) (heap_alloc_new _ _) (unhide HSC) (by rw [zb_size, brow_size, hcl]) (brow_one _) ?_; rw [hY])
          | (refine wpList_load_row rfl 29 _ rfl w3.heap.size rfl _ (brow C) (0, 0) _ (unhide HY4) Tryd.underlying29 rfl (unhide HSC) ?_)
          | (refine wpList_load_rowG rfl 29 _ rfl w3.heap.size rfl _ (brow C) (0, 0) _ (unhide HY4) Tryd.underlying29 rfl (unhide HSC) ?_)
          | (refine wpList_load_row rfl 29 _ rfl w2.heap.size rfl _ (brow D) (0, 0) _ (unhide HX4) Tryd.underlying29 rfl (unhide HSD) ?_)
          | (refine wpList_load_rowG rfl 29 _ rfl w2.heap.size rfl _ (brow D) (0, 0) _ (unhide HX4) Tryd.underlying29 rfl (unhide HSD) ?_))
        go_ret
        exact ⟨rfl, unhide HBL⟩
    · have hF' : ¬ (F : Int) = 0 := by omega
      subst hE
      clear HBI HIA HIB HWD
      go_wp2_with (first
        | (rw [zb32]; refine wpList_store_row rfl 29 _ _ rfl w3.heap.size (brow C) rfl rfl _ (zb 32) (heap_alloc_new _ _) (unhide HSC) (by rw [zb_size, brow_size, hcl]) (brow_one _) ?_; rw [hY]))
      go_ret
      exact ⟨rfl, unhide HBL⟩
  · have hE' : ¬ (E : Int) = 0 := by omega
    clear HBI HIA HIB HWD
    go_wp2_with (first
      | (rw [zb32]; refine wpList_store_row rfl 29 _ _ rfl w3.heap.size (brow C) rfl rfl _ (zb 32) (heap_alloc_new _ _) (unhide HSC) (by rw [zb_size, brow_size, hcl]) (brow_one _) ?_; rw [hY]))
    go_ret
    exact ⟨rfl, unhide HBL⟩
end Go.Proofs.YtjafmnemobcipaaDoor
