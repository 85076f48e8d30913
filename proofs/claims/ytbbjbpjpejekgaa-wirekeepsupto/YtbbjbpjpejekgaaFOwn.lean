import Derived.Test.YtbbjbpjpejekgaaJoin
import Derived.Test.YtbbjbpjpejekgaaWNew
import Derived.Test.YtbbjbpjpejekgaaDSum
namespace Go.Proofs.Ytbbjbpjpejekgaa
open Go.RowKit Go.BigFrame
set_option linter.unusedVariables false
set_option linter.unusedSimpArgs false

theorem Try.infoB : (Try.prog.info? 22).map (fun i => (i.zero, i.size, i.bytes)) = some (some (.slice none 0 0), 1, 24) := by kernel_rfl
/-- One value more behind a row of slices that is owned. -/
theorem pushV (w : World) (base : Nat) (v : Value) (xs : List Value) (x : Value) (H : Nat) (h : w.ownsRow base 22 1 v xs.length xs) (hnew : w.heap[H]? = some (.cells #[x] 22 (0, 0))) (hx : x.oneCell' = true) (hl : xs.length + 1 ≤ 1000000000000) (hb : base ≤ w.heap.size) :
    ∃ g cap w1, (Builtin.append_ #[42, 42] 42 #[v, .slice (some ⟨H, 0, none⟩) 1 1]).run Try.prog w = .ok (.slice (some ⟨g, 0, none⟩) (xs.length + 1) cap) w1 ∧
      w1.ownsRow base 22 1 (.slice (some ⟨g, 0, none⟩) (xs.length + 1) cap) (xs.length + 1) (xs ++ [x]) ∧ w.grownBy w1 v.ownBlock ∧ (v.ownBlock = some g ∨ g = w.heap.size) := by
  obtain ⟨i0, hi, hz0, hz1, hz2⟩ := info_parts Try.infoB
  obtain ⟨g, cap, w1, hr, hown, hgrow, hat, hlt⟩ := run_append_lies (P := Try.prog) w 42 42 base 22 i0 (.slice none 0 0) 1 24 Try.underlying42 hi hz0 hz1 hz2 rfl (by decide)
    v xs.length xs h ⟨H, 0, none⟩ 1 1 [x] rfl (World.news_of_block hnew) (by simpa using hx) (by decide) (by unfold maxLen; omega) (by omega) hb _ rfl
  exact ⟨g, cap, w1, hr, hown, hgrow, hat⟩
theorem wpList_pushV {ops : Array Oper} {rest : List Oper} {o : Oper} {a : Act} {Q : Exit → Act → World → Prop} (hgd : o.guard = none) (s x : Operand)
    (ho : o.op = .call { callee := .builtin .append, args := #[s, x], argTypes := #[42, 42] }) (hty : o.type = 42)
    (w : World) (base : Nat) (v : Value) (xs : List Value) (y : Value) (H : Nat) (h : w.ownsRow base 22 1 v xs.length xs) (hnew : w.heap[H]? = some (.cells #[y] 22 (0, 0))) (hy : y.oneCell' = true) (hl : xs.length + 1 ≤ 1000000000000) (hb : base ≤ w.heap.size)
    (hs : a.eval s = v) (hx : a.eval x = .slice (some ⟨H, 0, none⟩) 1 1)
    (hK : ∀ g cap w1, Hid (w1.ownsRow base 22 1 (.slice (some ⟨g, 0, none⟩) (xs.length + 1) cap) (xs.length + 1) (xs ++ [y])) → Hid (w.grownBy w1 v.ownBlock) → Hid (v.ownBlock = some g ∨ g = w.heap.size) →
      wpList Try.prog ops Q rest (a.put o.dst (.slice (some ⟨g, 0, none⟩) (xs.length + 1) cap)) w1) :
    wpList Try.prog ops Q (o :: rest) a w := by
  obtain ⟨g, cap, w1, hrun, h2, h3, h4⟩ := pushV w base v xs y H h hnew hy hl hb
  refine wpList_plain hgd fun K hK' => ?_
  unfold Oper.wp execOp
  simp only [ho, hty, resolve, invoke, builtin, Sem.run_bind, Sem.run_pure, Result.andThen_ok, List.map_toArray, List.map_cons, List.map_nil, hs, hx, hrun]
  exact hK' _ _ (hK g cap w1 h2 h3 h4)

def eblk (v : Value) (bs : List Nat) : List Nat := if bs = [] then [] else blk v
theorem Rd.keptE {L : List Nat} {w w' : World} {v : Value} {bs : List Nat} (h : Rd w v bs) (k : Kept L w w') (hn : ∀ x ∈ eblk v bs, x ∉ L) : Rd w' v bs := by
  by_cases he : bs = []
  · subst he
    obtain ⟨ao, len, cap, rfl, h1, h2, h3, h4, h5, h6⟩ := h
    exact ⟨ao, len, cap, rfl, h1, h2, h3, h4, h5, fun hp => by simp at h1; omega⟩
  · exact h.kept k (by unfold eblk at hn; rw [if_neg he] at hn; exact hn)
/-- Lists of bytes in a row of its own; the lists lie elsewhere. -/
structure OwnV (base : Nat) (w : World) (v : Value) (ts : List (List Nat × Value)) : Prop where
  own : w.ownsRow base 22 1 v ts.length (ts.map (·.2))
  ok : ∀ t ∈ ts, Rd w t.2 t.1
  apart : ∀ t ∈ ts, ∀ b ∈ eblk t.2 t.1, v.ownBlock ≠ some b ∧ b < w.heap.size
theorem OwnV.start (base : Nat) (w : World) : OwnV base w (.slice none 0 0) [] := ⟨World.ownsRow_nil _ _ _ _, by simp, by simp⟩
theorem OwnV.pass {base : Nat} {w w' : World} {v : Value} {ts : List (List Nat × Value)} (h : OwnV base w v ts) (k : Kept [] w w') : OwnV base w' v ts :=
  ⟨k.owns h.own (by simp), fun t ht => (h.ok t ht).old k (by simp), fun t ht b hb => ⟨(h.apart t ht b hb).1, Nat.lt_of_lt_of_le (h.apart t ht b hb).2 k.size⟩⟩
theorem OwnV.push {base : Nat} {w W : World} {v : Value} {ts : List (List Nat × Value)} (h : OwnV base w v ts) {bs : List Nat} {x : Value} (hr : Rd w x bs) (hb : ∀ b ∈ eblk x bs, v.ownBlock ≠ some b ∧ b < w.heap.size) {g cap : Nat} {xs : List Value} (hxs : ts.map (·.2) = xs)
    (o : W.ownsRow base 22 1 (.slice (some ⟨g, 0, none⟩) (xs.length + 1) cap) (xs.length + 1) (xs ++ [x])) (gr : w.grownBy W v.ownBlock) (hg : v.ownBlock = some g ∨ g = w.heap.size) : OwnV base W (.slice (some ⟨g, 0, none⟩) (xs.length + 1) cap) (ts ++ [(bs, x)]) := by
  subst hxs
  have kW : Kept v.ownBlock.toList w W := (Kept.refl _ w).grown gr (by intro k hk; left; simp [hk])
  have key : ∀ t ∈ ts ++ [(bs, x)], Rd w t.2 t.1 ∧ ∀ b ∈ eblk t.2 t.1, v.ownBlock ≠ some b ∧ b < w.heap.size := by
    intro t ht
    rcases List.mem_append.1 ht with ht | ht
    · exact ⟨h.ok t ht, h.apart t ht⟩
    · rw [List.mem_singleton] at ht; subst ht; exact ⟨hr, hb⟩
  refine ⟨?_, fun t ht => (key t ht).1.keptE kW (fun b hb hm => ((key t ht).2 b hb).1 (by simpa using hm)), fun t ht b hb => ?_⟩
  · rw [List.length_map] at o ⊢
    rw [List.length_append, List.map_append]; exact o
  · have h9 := (key t ht).2 b hb
    refine ⟨fun e => ?_, Nat.lt_of_lt_of_le h9.2 kW.size⟩
    simp only [Value.ownBlock, Option.some.injEq] at e
    subst e
    rcases hg with hg | hg
    · exact h9.1 hg
    · omega
theorem OwnV.xs {base : Nat} {w : World} {v : Value} {ts : List (List Nat × Value)} (h : OwnV base w v ts) {xs : List Value} (hxs : ts.map (·.2) = xs) : w.ownsRow base 22 1 v xs.length xs := by
  subst hxs; rw [List.length_map]; exact h.own
theorem OwnV.rdl {base : Nat} {w : World} {v : Value} {ts : List (List Nat × Value)} (h : OwnV base w v ts) : RdL w v (ts.map (·.1)) := by
  have hrd : ∀ j, j < ts.length → Rd w ((ts.map (·.2)).getD j undef) ((ts.map (·.1)).getD j []) := fun j hj => by
    have h9 := h.ok ts[j] (List.getElem_mem hj)
    simpa [List.getD_eq_getElem?_getD, hj] using h9
  rcases h.own.2 with ⟨rfl, h0⟩ | ⟨g, cap, cur, rfl, _, hg, hc, hm', hs, ht⟩
  · have : ts = [] := List.eq_nil_of_length_eq_zero (by omega)
    subst this
    exact ⟨none, 0, 0, [], rfl, rfl, rfl, Nat.le_refl _, by omega, fun h => by omega, fun i h => by omega⟩
  · refine ⟨_, _, _, ts.map (·.2), rfl, by simp, by simp, hc, by unfold maxLen at hm'; omega, fun _ => ⟨g, 0, rfl, fun j hj => ?_⟩, hrd⟩
    have := h.own.cells (g := g) rfl j ((ts.map (·.2)).getD j undef) (by rw [List.getD_eq_getElem?_getD, List.getElem?_eq_getElem (by simpa using hj)]; rfl)
    rw [Addr.add_mid] at this; exact this
theorem newB_eblk {w w' : World} {v : Value} {bs : List Nat} (h : NewB w w' v bs) : ∀ b ∈ eblk v bs, w.heap.size ≤ b ∧ b < w'.heap.size := by
  intro b hb
  unfold eblk at hb
  split at hb
  · simp at hb
  · rcases h.2 with ⟨h0, _⟩ | ⟨g, rfl, hg, hc⟩
    · contradiction
    · simp only [blk, List.mem_singleton] at hb
      subst hb
      exact ⟨hg, lt_of_block hc⟩

abbrev iv (n : Nat) : Value := .int .i64 (n : Int)
theorem iv_one (bs : List Nat) : ∀ v ∈ bs.map iv, v.oneCell' = true := by
  intro v hv; obtain ⟨x, _, rfl⟩ := List.mem_map.1 hv; rfl

theorem Try.infoI : (Try.prog.info? 3).map (fun i => (i.zero, i.size, i.bytes)) = some (some (.int .i64 0), 1, 8) := by kernel_rfl

theorem pushZ (w : World) (base : Nat) (v : Value) (xs ys : List Nat) (H n : Nat) (h : w.ownsRow base 3 1 v xs.length (xs.map iv)) (hnew : w.heap[H]? = some (.cells (ys.map iv).toArray 3 (0, 0))) (hn : ys.length = n) (hn0 : 0 < n) (hl : xs.length + n ≤ 1000000000000) (hb : base ≤ w.heap.size) :
    ∃ g cap w1, (Builtin.append_ #[78, 78] 78 #[v, .slice (some ⟨H, 0, none⟩) n n]).run Try.prog w = .ok (.slice (some ⟨g, 0, none⟩) (xs.length + n) cap) w1 ∧
      w1.ownsRow base 3 1 (.slice (some ⟨g, 0, none⟩) (xs.length + n) cap) (xs.length + n) (xs.map iv ++ ys.map iv) ∧ w.grownBy w1 v.ownBlock ∧ (v.ownBlock = some g ∨ g = w.heap.size) := by
  obtain ⟨i0, hi, hz0, hz1, hz2⟩ := info_parts Try.infoI
  obtain ⟨g, cap, w1, hr, hown, hgrow, hat, hlt⟩ := run_append_lies (P := Try.prog) w 78 78 base 3 i0 (.int .i64 0) 1 8 Try.underlying78 hi hz0 hz1 hz2 rfl (by decide)
    v xs.length (xs.map iv) h ⟨H, 0, none⟩ n n (ys.map iv) (by simp [hn]) (World.news_of_block hnew) (iv_one ys) hn0 (by unfold maxLen; omega) (by omega) hb _ rfl
  exact ⟨g, cap, w1, hr, hown, hgrow, hat⟩

theorem wpList_pushZ3 {ops : Array Oper} {rest : List Oper} {o : Oper} {a : Act} {Q : Exit → Act → World → Prop} (hgd : o.guard = none) (s x : Operand)
    (ho : o.op = .call { callee := .builtin .append, args := #[s, x], argTypes := #[78, 78] }) (hty : o.type = 78)
    (w : World) (base : Nat) (v : Value) (xs ys : List Nat) (H n : Nat) (h : w.ownsRow base 3 1 v xs.length (xs.map iv)) (hnew : w.heap[H]? = some (.cells (ys.map iv).toArray 3 (0, 0))) (hn : ys.length = n) (hn0 : 0 < n) (hl : xs.length + n ≤ 1000000000000) (hb : base ≤ w.heap.size)
    (hs : a.eval s = v) (hx : a.eval x = .slice (some ⟨H, 0, none⟩) n n)
    (hK : ∀ g cap w1, Hid (w1.ownsRow base 3 1 (.slice (some ⟨g, 0, none⟩) (xs.length + n) cap) (xs.length + n) (xs.map iv ++ ys.map iv)) → Hid (w.grownBy w1 v.ownBlock) → Hid (v.ownBlock = some g ∨ g = w.heap.size) → wpList Try.prog ops Q rest (a.put o.dst (.slice (some ⟨g, 0, none⟩) (xs.length + n) cap)) w1) :
    wpList Try.prog ops Q (o :: rest) a w := by
  obtain ⟨g, cap, w1, hrun, h2, h3, h4⟩ := pushZ w base v xs ys H n h hnew hn hn0 hl hb
  refine wpList_plain hgd fun K hK' => ?_
  unfold Oper.wp execOp
  simp only [ho, hty, resolve, invoke, builtin, Sem.run_bind, Sem.run_pure, Result.andThen_ok, List.map_toArray, List.map_cons, List.map_nil, hs, hx, hrun]
  exact hK' _ _ (hK g cap w1 h2 h3 h4)

theorem owns_formF {w : World} {base : Nat} {e : TypeId} {size n : Nat} {v : Value} {xs : List Value} (h : w.ownsRow base e size v n xs) : ∃ ao cap, v = .slice ao n cap := by
  rcases h.2 with ⟨rfl, rfl⟩ | ⟨g, cap, cur, rfl, _⟩
  · exact ⟨none, 0, rfl⟩
  · exact ⟨_, cap, rfl⟩
theorem rd_ltF {w : World} {v : Value} {bs : List Nat} (h : Rd w v bs) : ∀ x ∈ eblk v bs, x < w.heap.size := by
  intro x hx
  unfold eblk at hx
  split at hx
  · simp at hx
  · rename_i h2
    obtain ⟨ao, len, cap, rfl, h3, _, _, _, _, h6⟩ := h
    have hp : 0 < len := by rw [← h3]; exact List.length_pos_iff.2 h2
    obtain ⟨b, off, rfl, hc⟩ := h6 hp
    simp only [blk, List.mem_singleton] at hx
    subst hx
    exact block_lt_of_cell (hc 0 hp)
theorem owns_ne {w : World} {b1 b2 s1 s2 n1 n2 : Nat} {e1 e2 : TypeId} {v1 v2 : Value} {x1 x2 : List Value} (h1 : w.ownsRow b1 e1 s1 v1 n1 x1) (h2 : w.ownsRow b2 e2 s2 v2 n2 x2) (hne : e1 ≠ e2) : ∀ g, v1.ownBlock = some g → v2.ownBlock ≠ some g := by
  intro g hg hg2
  rcases h1.2 with ⟨rfl, _⟩ | ⟨a, _, cu, rfl, _, ha, _⟩
  · simp [Value.ownBlock] at hg
  · rcases h2.2 with ⟨rfl, _⟩ | ⟨b, _, cv, rfl, _, hb, _⟩
    · simp [Value.ownBlock] at hg2
    · simp only [Value.ownBlock, Option.some.injEq] at hg hg2
      subst hg
      subst hg2
      rw [ha] at hb
      simp at hb
      exact hne hb.2
theorem OwnV.passL {L : List Nat} {base : Nat} {w w' : World} {v : Value} {ts : List (List Nat × Value)} (h : OwnV base w v ts) (k : Kept L w w') (h1 : ∀ g, v.ownBlock = some g → g ∉ L) (h2 : ∀ t ∈ ts, ∀ b ∈ eblk t.2 t.1, b ∉ L) : OwnV base w' v ts :=
  ⟨k.owns h.own h1, fun t ht => (h.ok t ht).keptE k (h2 t ht), fun t ht b hb => ⟨(h.apart t ht b hb).1, Nat.lt_of_lt_of_le (h.apart t ht b hb).2 k.size⟩⟩
/-- Three rows that are owned: bytes, numbers, lists of bytes. -/
structure Tri (w0 w : World) (av : Value) (A : List Nat) (ev : Value) (E : List Nat) (wv : Value) (ts : List (List Nat × Value)) : Prop where
  a : w.ownsRow w0.heap.size 5 1 av A.length (A.map u8)
  e : w.ownsRow w0.heap.size 3 1 ev E.length (E.map iv)
  v : OwnV w0.heap.size w wv ts
  ap : ∀ t ∈ ts, ∀ b ∈ eblk t.2 t.1, av.ownBlock ≠ some b
  ae : ∀ t ∈ ts, ∀ b ∈ eblk t.2 t.1, ev.ownBlock ≠ some b
  k : Kept [] w0 w
theorem Tri.start (w : World) : Tri w w (.slice none 0 0) [] (.slice none 0 0) [] (.slice none 0 0) [] := ⟨World.ownsRow_nil _ _ _ _, World.ownsRow_nil _ _ _ _, OwnV.start _ _, by simp, by simp, Kept.refl _ _⟩
theorem Tri.pass {w0 w w' : World} {av ev wv : Value} {A E : List Nat} {ts : List (List Nat × Value)} (h : Tri w0 w av A ev E wv ts) (k : Kept [] w w') : Tri w0 w' av A ev E wv ts :=
  ⟨k.owns h.a (by simp), k.owns h.e (by simp), h.v.pass k, h.ap, h.ae, h.k.trans k (by simp)⟩
theorem Tri.growA {w0 w w1 : World} {av av' ev wv : Value} {A p E : List Nat} {ts : List (List Nat × Value)} (h : Tri w0 w av A ev E wv ts) (o : w1.ownsRow w0.heap.size 5 1 av' (A ++ p).length ((A ++ p).map u8)) (gr : w.grownBy w1 av.ownBlock) (hat : av'.ownBlock = av.ownBlock ∨ av'.ownBlock = some w.heap.size) : Tri w0 w1 av' (A ++ p) ev E wv ts := by
  have kG : Kept av.ownBlock.toList w w1 := (Kept.refl _ w).grown gr (by intro k hk; left; simp [hk])
  refine ⟨o, kG.owns h.e (fun g hg hm => owns_ne h.e h.a (by decide) g hg (by simpa using hm)), h.v.passL kG (fun g hg hm => owns_ne h.v.own h.a (by decide) g hg (by simpa using hm)) (fun t ht b hb hm => h.ap t ht b hb (by simpa using hm)), fun t ht b hb e9 => ?_, h.ae, h.k.grown gr (by intro k hk; right; exact (h.a.lt k hk).1)⟩
  rcases hat with h9 | h9
  · rw [h9] at e9; exact h.ap t ht b hb e9
  · rw [h9] at e9; have := (h.v.apart t ht b hb).2; simp only [Option.some.injEq] at e9; omega
theorem Tri.growE {w0 w w1 : World} {av ev wv : Value} {A E ys : List Nat} {n g cap : Nat} {ts : List (List Nat × Value)} (h : Tri w0 w av A ev E wv ts) (hn : ys.length = n) (o : w1.ownsRow w0.heap.size 3 1 (.slice (some ⟨g, 0, none⟩) (E.length + n) cap) (E.length + n) (E.map iv ++ ys.map iv)) (gr : w.grownBy w1 ev.ownBlock) (hat : ev.ownBlock = some g ∨ g = w.heap.size) : Tri w0 w1 av A (.slice (some ⟨g, 0, none⟩) (E.length + n) cap) (E ++ ys) wv ts := by
  have kG : Kept ev.ownBlock.toList w w1 := (Kept.refl _ w).grown gr (by intro k hk; left; simp [hk])
  refine ⟨kG.owns h.a (fun g hg hm => owns_ne h.a h.e (by decide) g hg (by simpa using hm)), ?_, h.v.passL kG (fun g hg hm => owns_ne h.v.own h.e (by decide) g hg (by simpa using hm)) (fun t ht b hb hm => h.ae t ht b hb (by simpa using hm)), h.ap, fun t ht b hb e9 => ?_, h.k.grown gr (by intro k hk; right; exact (h.e.lt k hk).1)⟩
  · rw [List.map_append, List.length_append, hn]; exact o
  · simp only [Value.ownBlock, Option.some.injEq] at e9
    rcases hat with h9 | h9
    · exact h.ae t ht b hb (by rw [h9, e9])
    · have := (h.v.apart t ht b hb).2; omega
theorem Tri.growV {w0 w w1 : World} {av ev wv x : Value} {A E bs : List Nat} {g cap : Nat} {ts : List (List Nat × Value)} {xs : List Value} (h : Tri w0 w av A ev E wv ts) (hr : Rd w x bs) (hb : ∀ b ∈ eblk x bs, wv.ownBlock ≠ some b ∧ b < w.heap.size) (h1 : ∀ b ∈ eblk x bs, av.ownBlock ≠ some b ∧ ev.ownBlock ≠ some b) (hxs : ts.map (·.2) = xs)
    (o : w1.ownsRow w0.heap.size 22 1 (.slice (some ⟨g, 0, none⟩) (xs.length + 1) cap) (xs.length + 1) (xs ++ [x])) (gr : w.grownBy w1 wv.ownBlock) (hat : wv.ownBlock = some g ∨ g = w.heap.size) : Tri w0 w1 av A ev E (.slice (some ⟨g, 0, none⟩) (xs.length + 1) cap) (ts ++ [(bs, x)]) := by
  have kG : Kept wv.ownBlock.toList w w1 := (Kept.refl _ w).grown gr (by intro k hk; left; simp [hk])
  refine ⟨kG.owns h.a (fun g hg hm => owns_ne h.a h.v.own (by decide) g hg (by simpa using hm)), kG.owns h.e (fun g hg hm => owns_ne h.e h.v.own (by decide) g hg (by simpa using hm)), h.v.push hr hb hxs o gr hat, fun t ht b hb2 => ?_, fun t ht b hb2 => ?_, h.k.grown gr (by intro k hk; right; exact (h.v.own.lt k hk).1)⟩
  · rcases List.mem_append.1 ht with ht | ht
    · exact h.ap t ht b hb2
    · rw [List.mem_singleton] at ht; subst ht; exact (h1 b hb2).1
  · rcases List.mem_append.1 ht with ht | ht
    · exact h.ae t ht b hb2
    · rw [List.mem_singleton] at ht; subst ht; exact (h1 b hb2).2
/-- A list that lies apart from three rows. -/
structure Ex (w : World) (av ev wv pv : Value) (F : List Nat) : Prop where
  rd : Rd w pv F
  na : ∀ b ∈ eblk pv F, av.ownBlock ≠ some b
  ne : ∀ b ∈ eblk pv F, ev.ownBlock ≠ some b
  nv : ∀ b ∈ eblk pv F, wv.ownBlock ≠ some b
theorem Ex.lt {w : World} {av ev wv pv : Value} {F : List Nat} (h : Ex w av ev wv pv F) : ∀ b ∈ eblk pv F, b < w.heap.size := rd_ltF h.rd
theorem Ex.pass {w w' : World} {av ev wv pv : Value} {F : List Nat} (h : Ex w av ev wv pv F) (k : Kept [] w w') : Ex w' av ev wv pv F := ⟨h.rd.old k (by simp), h.na, h.ne, h.nv⟩
theorem Ex.growA {w w1 : World} {av av' ev wv pv : Value} {F : List Nat} (h : Ex w av ev wv pv F) (gr : w.grownBy w1 av.ownBlock) (hat : av'.ownBlock = av.ownBlock ∨ av'.ownBlock = some w.heap.size) : Ex w1 av' ev wv pv F := by
  have kG : Kept av.ownBlock.toList w w1 := (Kept.refl _ w).grown gr (by intro k hk; left; simp [hk])
  refine ⟨h.rd.keptE kG (fun b hb hm => h.na b hb (by simpa using hm)), fun b hb e9 => ?_, h.ne, h.nv⟩
  rcases hat with h9 | h9
  · rw [h9] at e9; exact h.na b hb e9
  · rw [h9] at e9; have := h.lt b hb; simp only [Option.some.injEq] at e9; omega
theorem Ex.growE {w w1 : World} {av ev wv pv : Value} {F : List Nat} {g n cap : Nat} (h : Ex w av ev wv pv F) (gr : w.grownBy w1 ev.ownBlock) (hat : ev.ownBlock = some g ∨ g = w.heap.size) : Ex w1 av (.slice (some ⟨g, 0, none⟩) n cap) wv pv F := by
  have kG : Kept ev.ownBlock.toList w w1 := (Kept.refl _ w).grown gr (by intro k hk; left; simp [hk])
  refine ⟨h.rd.keptE kG (fun b hb hm => h.ne b hb (by simpa using hm)), h.na, fun b hb e9 => ?_, h.nv⟩
  simp only [Value.ownBlock, Option.some.injEq] at e9
  rcases hat with h9 | h9
  · exact h.ne b hb (by rw [h9, e9])
  · have := h.lt b hb; omega
end Go.Proofs.Ytbbjbpjpejekgaa
