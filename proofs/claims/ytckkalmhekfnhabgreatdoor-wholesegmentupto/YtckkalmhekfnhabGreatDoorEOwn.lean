import Derived.Test.YtckkalmhekfnhabGreatDoorEBat2
namespace Go.Proofs.YtckkalmhekfnhabGreatDoor
open Go.RowKit Go.BigFrame
set_option linter.unusedVariables false
set_option linter.unusedSimpArgs false

/-- The cells of entries. -/
def cellsN (ts : List (En × Value × Value)) : List Value := ts.flatMap fun t => [.int .u8 (t.1.k : Int), t.2.1, t.2.2]
theorem cellsN_len (ts : List (En × Value × Value)) : (cellsN ts).length = ts.length * 3 := by
  induction ts with
  | nil => rfl
  | cons t r ih => simp only [cellsN, List.flatMap_cons, List.length_append, List.length_cons, List.length_nil] at ih ⊢; omega
theorem cellsN_app (ts : List (En × Value × Value)) (t : En × Value × Value) : cellsN (ts ++ [t]) = cellsN ts ++ [.int .u8 (t.1.k : Int), t.2.1, t.2.2] := by simp [cellsN]
theorem cellsN_get : ∀ (ts : List (En × Value × Value)) (i : Nat) (h : i < ts.length), (cellsN ts)[3 * i]? = some (.int .u8 (ts[i].1.k : Int)) ∧ (cellsN ts)[3 * i + 1]? = some ts[i].2.1 ∧ (cellsN ts)[3 * i + 2]? = some ts[i].2.2
  | t :: r, 0, _ => by simp [cellsN]
  | t :: r, i + 1, h => by
    have h' : i < r.length := by simpa using h
    have := cellsN_get r i h'
    have e : cellsN (t :: r) = (.int .u8 (t.1.k : Int)) :: t.2.1 :: t.2.2 :: cellsN r := by simp [cellsN]
    rw [e, show 3 * (i + 1) = 3 * i + 1 + 1 + 1 by omega]
    simpa using this
theorem Tryz.infoN : (Tryz.prog.info? 44).map (fun i => (i.zero, i.size, i.bytes)) = some (some (.agg #[.int .u8 0, .slice none 0 0, .slice none 0 0]), 3, 56) := by kernel_rfl

/-- The blocks that a list of bytes lies in; of an empty one none. -/
def nblk (v : Value) (bs : List Nat) : List Nat := if bs = [] then [] else blk v
theorem mem_nblk {v : Value} {bs : List Nat} {x : Nat} (h : x ∈ nblk v bs) : x ∈ blk v ∧ bs ≠ [] := by
  unfold nblk at h
  split at h
  · simp at h
  · rename_i h1; exact ⟨h, h1⟩
theorem Rd.keptN {L : List Nat} {w w' : World} {v : Value} {bs : List Nat} (h : Rd w v bs) (k : Kept L w w') (hn : ∀ x ∈ nblk v bs, x ∉ L) : Rd w' v bs := by
  by_cases he : bs = []
  · subst he
    obtain ⟨ao, len, cap, rfl, h1, h2, h3, h4, h5, h6⟩ := h
    exact ⟨ao, len, cap, rfl, h1, h2, h3, h4, h5, fun hp => by simp at h1; omega⟩
  · exact h.kept k (by unfold nblk at hn; rw [if_neg he] at hn; exact hn)
theorem Rd.ltN {w : World} {v : Value} {bs : List Nat} (h : Rd w v bs) : ∀ x ∈ nblk v bs, x < w.heap.size := by
  intro x hx
  obtain ⟨h1, h2⟩ := mem_nblk hx
  obtain ⟨ao, len, cap, rfl, h3, _, _, _, _, h6⟩ := h
  obtain ⟨b, off, rfl, hc⟩ := h6 (by rw [← h3]; exact List.length_pos_iff.2 h2)
  have h9 := block_lt_of_cell (hc 0 (by rw [← h3]; exact List.length_pos_iff.2 h2))
  simp only [blk, List.mem_singleton] at h1
  subst h1
  exact h9
/-- Entries that are owned, each list in memory of its own; of what was there at w0 the blocks of L alone may have turned. -/
structure OwnN (L : List Nat) (w0 w : World) (v : Value) (ts : List (En × Value × Value)) : Prop where
  own : w.ownsRow w0.heap.size 44 3 v ts.length (cellsN ts)
  ok : ∀ t ∈ ts, OkE w t.1 t.2.1 t.2.2
  apart : ∀ t ∈ ts, ∀ b, b ∈ nblk t.2.1 t.1.key ∨ b ∈ nblk t.2.2 t.1.val → v.ownBlock ≠ some b ∧ w0.heap.size ≤ b
  kept : Kept L w0 w
theorem OwnN.rdN {L : List Nat} {w0 w : World} {v : Value} {ts : List (En × Value × Value)} (h : OwnN L w0 w v ts) : RdN w v (ts.map (·.1)) := by
  rcases h.own.2 with ⟨rfl, h0⟩ | ⟨g, cap, cur, rfl, _, hg, hc, hm', hs, ht⟩
  · have : ts = [] := List.eq_nil_of_length_eq_zero h0
    subst this
    exact RdN.nil w
  · refine ⟨some ⟨g, 0, none⟩, ts.length, cap, fun i => (ts.getD i (⟨0, [], []⟩, undef, undef)).2.1, fun i => (ts.getD i (⟨0, [], []⟩, undef, undef)).2.2, rfl, by simp, hc, by unfold maxLen at hm'; omega, fun i hi => ?_, fun _ => ⟨g, 0, rfl, fun i hi => ?_⟩⟩
    · have hi' : i < ts.length := by simpa using hi
      have h9 := h.ok ts[i] (List.getElem_mem hi')
      rw [List.getElem_map]
      simp only [List.getD_eq_getElem?_getD, List.getElem?_eq_getElem hi', Option.getD_some]
      exact h9
    · have hi' : i < ts.length := by simpa using hi
      have hx := cellsN_get ts i hi'
      have c0 := h.own.cells (g := g) rfl (3 * i) _ hx.1
      have c1 := h.own.cells (g := g) rfl (3 * i + 1) _ hx.2.1
      have c2 := h.own.cells (g := g) rfl (3 * i + 2) _ hx.2.2
      rw [Addr.add_mid] at c0 c1 c2
      rw [List.getElem_map]
      simp only [List.getD_eq_getElem?_getD, List.getElem?_eq_getElem hi', Option.getD_some]
      intro j v hv
      have hj : j < 3 := (List.getElem?_eq_some_iff.1 hv).1
      rcases (by omega : j = 0 ∨ j = 1 ∨ j = 2) with rfl | rfl | rfl
      · rw [show 0 + i * 3 + 0 = 0 + 3 * i by omega, c0]; exact hv
      · rw [show 0 + i * 3 + 1 = 0 + (3 * i + 1) by omega, c1]; exact hv
      · rw [show 0 + i * 3 + 2 = 0 + (3 * i + 2) by omega, c2]; exact hv
/-- One entry more. -/
theorem pushN (w : World) (base : Nat) (v : Value) (ts : List (En × Value × Value)) (e : En) (x y : Value) (H : Nat) (h : w.ownsRow base 44 3 v ts.length (cellsN ts)) (hnew : w.heap[H]? = some (.cells #[.int .u8 (e.k : Int), x, y] 44 (0, 0))) (hx : x.oneCell' = true) (hy : y.oneCell' = true) (hl : ts.length + 1 ≤ 1000000000) (hb : base ≤ w.heap.size) :
    ∃ g cap w1, (Builtin.append_ #[35, 35] 35 #[v, .slice (some ⟨H, 0, none⟩) 1 1]).run Tryz.prog w = .ok (.slice (some ⟨g, 0, none⟩) (ts.length + 1) cap) w1 ∧
      w1.ownsRow base 44 3 (.slice (some ⟨g, 0, none⟩) (ts.length + 1) cap) (ts.length + 1) (cellsN ts ++ [.int .u8 (e.k : Int), x, y]) ∧ w.grownBy w1 v.ownBlock ∧ (v.ownBlock = some g ∨ g = w.heap.size) := by
  obtain ⟨i0, hi, hz0, hz1, hz2⟩ := info_parts Tryz.infoN
  obtain ⟨g, cap, w1, hr, hown, hgrow, hat, hlt⟩ := run_append_lies (P := Tryz.prog) w 35 35 base 44 i0 (.agg #[.int .u8 0, .slice none 0 0, .slice none 0 0]) 3 56 Tryz.underlying35 hi hz0 hz1 hz2 rfl (by decide)
    v ts.length (cellsN ts) h ⟨H, 0, none⟩ 1 1 [.int .u8 (e.k : Int), x, y] rfl (World.news_of_block hnew) (by intro u hu; simp at hu; rcases hu with rfl | rfl | rfl; rfl; exact hx; exact hy) (by decide) (by unfold maxLen; omega) (by omega) hb _ rfl
  exact ⟨g, cap, w1, hr, hown, hgrow, hat⟩
theorem wpList_pushN {ops : Array Oper} {rest : List Oper} {o : Oper} {a : Act} {Q : Exit → Act → World → Prop} (hgd : o.guard = none) (s x : Operand)
    (ho : o.op = .call { callee := .builtin .append, args := #[s, x], argTypes := #[35, 35] }) (hty : o.type = 35)
    (w : World) (base : Nat) (v : Value) (ts : List (En × Value × Value)) (e : En) (y z : Value) (H : Nat) (h : w.ownsRow base 44 3 v ts.length (cellsN ts)) (hnew : w.heap[H]? = some (.cells #[.int .u8 (e.k : Int), y, z] 44 (0, 0))) (hy : y.oneCell' = true) (hz : z.oneCell' = true) (hl : ts.length + 1 ≤ 1000000000) (hb : base ≤ w.heap.size)
    (hs : a.eval s = v) (hx : a.eval x = .slice (some ⟨H, 0, none⟩) 1 1)
    (hK : ∀ g cap w1, Hid (w1.ownsRow base 44 3 (.slice (some ⟨g, 0, none⟩) (ts.length + 1) cap) (ts.length + 1) (cellsN ts ++ [.int .u8 (e.k : Int), y, z])) → Hid (w.grownBy w1 v.ownBlock) → Hid (v.ownBlock = some g ∨ g = w.heap.size) →
      wpList Tryz.prog ops Q rest (a.put o.dst (.slice (some ⟨g, 0, none⟩) (ts.length + 1) cap)) w1) :
    wpList Tryz.prog ops Q (o :: rest) a w := by
  obtain ⟨g, cap, w1, hrun, h2, h3, h4⟩ := pushN w base v ts e y z H h hnew hy hz hl hb
  refine wpList_plain hgd fun K hK' => ?_
  unfold Oper.wp execOp
  simp only [ho, hty, resolve, invoke, builtin, Sem.run_bind, Sem.run_pure, Result.andThen_ok, List.map_toArray, List.map_cons, List.map_nil, hs, hx, hrun]
  exact hK' _ _ (hK g cap w1 h2 h3 h4)
theorem OwnN.start {L : List Nat} {w0 w : World} (k : Kept L w0 w) : OwnN L w0 w (.slice none 0 0) [] := ⟨World.ownsRow_nil _ _ _ _, by simp, by simp, k⟩
theorem OwnN.mono {L M : List Nat} {w0 w : World} {v : Value} {ts : List (En × Value × Value)} (h : OwnN L w0 w v ts) (hM : ∀ x ∈ L, x ∈ M) : OwnN M w0 w v ts := ⟨h.own, h.ok, h.apart, h.kept.mono hM⟩
theorem OwnN.pass {L M : List Nat} {w0 w w' : World} {v : Value} {ts : List (En × Value × Value)} (h : OwnN L w0 w v ts) (k : Kept M w w') (hM : ∀ x ∈ M, x ∈ L ∨ w0.heap.size ≤ x) (ho : ∀ x ∈ M, v.ownBlock ≠ some x) (he : ∀ x ∈ M, ∀ t ∈ ts, x ∉ nblk t.2.1 t.1.key ∧ x ∉ nblk t.2.2 t.1.val) : OwnN L w0 w' v ts :=
  ⟨k.owns h.own (fun g hg hm => ho g hm hg), fun t ht => ⟨(h.ok t ht).k, (h.ok t ht).key.keptN k (fun x hx hm => (he x hm t ht).1 hx), (h.ok t ht).val.keptN k (fun x hx hm => (he x hm t ht).2 hx)⟩, h.apart, h.kept.trans k hM⟩
/-- A block that was there at w0 may turn. -/
theorem OwnN.old {L M : List Nat} {w0 w w' : World} {v : Value} {ts : List (En × Value × Value)} (h : OwnN L w0 w v ts) (k : Kept M w w') (hM : ∀ x ∈ M, x ∈ L ∧ x < w0.heap.size) : OwnN L w0 w' v ts :=
  h.pass k (fun x hx => Or.inl (hM x hx).1) (fun x hx e => by have := (h.own.lt x e).1; have := (hM x hx).2; omega)
    (fun x hx t ht => ⟨fun hb => by have := (h.apart t ht x (Or.inl hb)).2; have := (hM x hx).2; omega, fun hb => by have := (h.apart t ht x (Or.inr hb)).2; have := (hM x hx).2; omega⟩)
theorem OwnN.push {L : List Nat} {w0 w W : World} {v : Value} {ts : List (En × Value × Value)} (h : OwnN L w0 w v ts) {e : En} {y z : Value} (hy : OkE w e y z) (hn : ∀ b, b ∈ nblk y e.key ∨ b ∈ nblk z e.val → v.ownBlock ≠ some b ∧ w0.heap.size ≤ b) {g cap : Nat}
    (o : W.ownsRow w0.heap.size 44 3 (.slice (some ⟨g, 0, none⟩) (ts.length + 1) cap) (ts.length + 1) (cellsN ts ++ [.int .u8 (e.k : Int), y, z])) (gr : w.grownBy W v.ownBlock) (hg : v.ownBlock = some g ∨ g = w.heap.size) :
    OwnN L w0 W (.slice (some ⟨g, 0, none⟩) (ts.length + 1) cap) (ts ++ [(e, y, z)]) := by
  have kW : Kept v.ownBlock.toList w W := ((Kept.refl _ w)).grown gr (by intro k hk; left; simp [hk])
  have kW0 : Kept L w0 W := h.kept.grown gr (by intro k hk; right; exact (h.own.lt k hk).1)
  have key : ∀ t ∈ ts ++ [(e, y, z)], OkE w t.1 t.2.1 t.2.2 ∧ ∀ b, b ∈ nblk t.2.1 t.1.key ∨ b ∈ nblk t.2.2 t.1.val → v.ownBlock ≠ some b ∧ w0.heap.size ≤ b := by
    intro t ht
    rcases List.mem_append.1 ht with ht | ht
    · exact ⟨h.ok t ht, h.apart t ht⟩
    · rw [List.mem_singleton] at ht; subst ht; exact ⟨hy, hn⟩
  refine ⟨?_, fun t ht => ?_, fun t ht b hb => ⟨fun e' => ?_, ((key t ht).2 b hb).2⟩, kW0⟩
  · rw [cellsN_app, List.length_append]; exact o
  · exact ⟨(key t ht).1.k, (key t ht).1.key.keptN kW (fun b hb hm => ((key t ht).2 b (Or.inl hb)).1 (by simpa using hm)), (key t ht).1.val.keptN kW (fun b hb hm => ((key t ht).2 b (Or.inr hb)).1 (by simpa using hm))⟩
  · simp only [Value.ownBlock, Option.some.injEq] at e'
    subst e'
    rcases hg with hg | hg
    · exact ((key t ht).2 _ hb).1 hg
    · have h9 : g < w.heap.size := by
        rcases hb with hb | hb
        · exact (key t ht).1.key.ltN g hb
        · exact (key t ht).1.val.ltN g hb
      omega

/-- Entries in memory that is new from block B on. -/
def NewN (B : Nat) (w : World) (v : Value) (es : List En) : Prop := ∃ (L : List Nat) (w0 : World) (ts : List (En × Value × Value)), es = ts.map (·.1) ∧ OwnN L w0 w v ts ∧ B ≤ w0.heap.size
theorem NewN.rdN {B : Nat} {w : World} {v : Value} {es : List En} (h : NewN B w v es) : RdN w v es := by
  obtain ⟨L, w0, ts, rfl, h1, _⟩ := h; exact h1.rdN
theorem NewN.nil (B : Nat) (w : World) (h : B ≤ w.heap.size) : NewN B w (.slice none 0 0) [] := ⟨[], w, [], rfl, OwnN.start (Kept.refl [] w), h⟩
theorem NewN.weak {B C : Nat} {w : World} {v : Value} {es : List En} (h : NewN B w v es) (hc : C ≤ B) : NewN C w v es := by
  obtain ⟨L, w0, ts, h1, h2, h3⟩ := h; exact ⟨L, w0, ts, h1, h2, Nat.le_trans hc h3⟩
theorem NewN.kept {B : Nat} {M : List Nat} {w w' : World} {v : Value} {es : List En} (h : NewN B w v es) (k : Kept M w w') (hM : ∀ x ∈ M, x < B) : NewN B w' v es := by
  obtain ⟨L, w0, ts, h1, h2, h3⟩ := h
  refine ⟨L ++ M, w0, ts, h1, (h2.mono (M := L ++ M) (fun x hx => by simp [hx])).old k (fun x hx => ⟨by simp [hx], by have := hM x hx; omega⟩), h3⟩
/-- So many entries off a reader. -/
def takeN (p : List Nat) : Nat → Nat → List En × Nat × Nat
  | i, 0 => ([], i, 0)
  | i, n + 1 => if (takeE p i).2.2 ≠ 0 then ([], 0, (takeE p i).2.2) else ((takeE p i).1 :: (takeN p (takeE p i).2.1 n).1, (takeN p (takeE p i).2.1 n).2)
/-- A batch off a reader: the first index, the entries, the place behind it, the fault (thrown where it is not 0). -/
def takeB (p : List Nat) (i : Nat) : Nat × List En × Nat × Nat :=
  if (rUvar p (rUvar p i 0).2.1 (rUvar p i 0).2.2).2.2 ≠ 0 then (0, [], 0, (rUvar p (rUvar p i 0).2.1 (rUvar p i 0).2.2).2.2)
  else if cntE (rUvar p i 0).1 (rUvar p (rUvar p i 0).2.1 (rUvar p i 0).2.2).1 ≠ 0 then (0, [], 0, cntE (rUvar p i 0).1 (rUvar p (rUvar p i 0).2.1 (rUvar p i 0).2.2).1)
  else ((rUvar p i 0).1, takeN p (rUvar p (rUvar p i 0).2.1 (rUvar p i 0).2.2).2.1 (rUvar p (rUvar p i 0).2.1 (rUvar p i 0).2.2).1)
end Go.Proofs.YtckkalmhekfnhabGreatDoor
