import Derived.Test.YtlopdlcepmmjdaaDkI
import Derived.Test.YtlopdlcepmmjdaaQFl
namespace Go.Proofs.Ytlopdlcepmmjdaa
open Go.RowKit Go.BigFrame Go.Maps Go.Sort
set_option linter.unusedVariables false
set_option linter.unusedSimpArgs false

/-- The files, in the order of their names. -/
def srtA (A : List DF) : List DF := A.mergeSort fun a b => decide (a.nm.data.toList ≤ b.nm.data.toList)
theorem srtA_perm (A : List DF) : (srtA A).Perm A := List.mergeSort_perm _ _
theorem srtA_mem {A : List DF} {f : DF} : f ∈ srtA A ↔ f ∈ A := (srtA_perm A).mem_iff
theorem srtA_len (A : List DF) : (srtA A).length = A.length := (srtA_perm A).length_eq
theorem le_trans_u8 (a b c : List UInt8) (h1 : a ≤ b) (h2 : b ≤ c) : a ≤ c := List.le_trans h1 h2
theorem srtA_names {A : List DF} (hd : Dist A) : (srtA A).map (fun f => f.nm.data.toList) = srtN A := by
  unfold srtA srtN
  rw [List.map_mergeSort]
  intro a _ b _
  rfl
theorem findA_of {A : List DF} (hd : Dist A) {f : DF} (hf : f ∈ A) : findA A f.nm.data.toList = some f := by
  cases h : findA A f.nm.data.toList with
  | none => exact absurd rfl (findA_none h f hf)
  | some g =>
    unfold findA at h
    have h1 := List.mem_of_find?_eq_some h
    have h2 : g.nm.data.toList = f.nm.data.toList := by simpa using List.find?_some h
    have h3 := ba_ext h2
    congr 1
    have hd2 : A.Pairwise fun a b => a.nm ≠ b.nm := hd
    clear h hd
    induction hd2 with
    | nil => simp at hf
    | @cons x l hx hl ih =>
      simp only [List.mem_cons] at hf h1
      rcases hf with rfl | hf
      · rcases h1 with rfl | h1
        · rfl
        · exact absurd h3.symm (hx g h1)
      · rcases h1 with rfl | h1
        · exact absurd h3 (hx f hf)
        · exact ih hf h1

/-- The cells of a file. -/
def dfC (t : DF × Value) : List Value := [.string t.1.nm, t.2, .int .i64 (t.1.sy : Int), .bool t.1.nd]
theorem dfC_len (ts : List (DF × Value)) : (ts.flatMap dfC).length = ts.length * 4 := by
  induction ts with
  | nil => rfl
  | cons t r ih => simp only [List.flatMap_cons, List.length_append, List.length_cons, dfC, List.length_nil] at ih ⊢; omega
theorem dfC_get : ∀ (ts : List (DF × Value)) (i : Nat) (h : i < ts.length) (j : Nat) (v : Value), (dfC ts[i])[j]? = some v → (ts.flatMap dfC)[i * 4 + j]? = some v
  | t :: r, 0, _, j, v, hv => by
    have hj := (List.getElem?_eq_some_iff.1 hv).1
    rw [List.flatMap_cons, List.getElem?_append_left (by simpa using hj)]
    simpa using hv
  | t :: r, i + 1, h, j, v, hv => by
    have h' : i < r.length := by simpa using h
    have h1 := dfC_get r i h' j v (by simpa using hv)
    rw [List.flatMap_cons, List.getElem?_append_right (by simp [dfC]; omega)]
    rw [show (i + 1) * 4 + j - (dfC t).length = i * 4 + j by simp [dfC]; omega]
    exact h1
/-- Files that are owned, each file's bytes in memory of their own. -/
structure OwnFl (B : Nat) (w : World) (v : Value) (ts : List (DF × Value)) : Prop where
  own : w.ownsRow B 54 4 v ts.length (ts.flatMap dfC)
  el : ∀ t ∈ ts, w.ownsRow B 5 1 t.2 t.1.bs.length (t.1.bs.map u8) ∧ (∀ x ∈ t.1.bs, x < 256) ∧ t.1.bs.length ≤ 140737488355328
  ap : ts.Pairwise fun a b => ∀ x ∈ blk a.2, x ∉ blk b.2
theorem OwnFl.nil (B : Nat) (w : World) : OwnFl B w (.slice none 0 0) [] := ⟨World.ownsRow_nil _ _ _ _, by simp, List.Pairwise.nil⟩
/-- Files that can be read. -/
def RdFl (w : World) (v : Value) (ts : List (DF × Value)) : Prop := RdC 4 w v (ts.map dfC) ∧ ∀ t ∈ ts, Rd w t.2 t.1.bs
theorem OwnFl.rd {B : Nat} {w : World} {v : Value} {ts : List (DF × Value)} (h : OwnFl B w v ts) : RdFl w v ts := by
  refine ⟨?_, fun t ht => rd_owns (h.el t ht).1 (h.el t ht).2.1 (h.el t ht).2.2⟩
  rcases h.own.2 with ⟨rfl, h0⟩ | ⟨g, cap, cur, rfl, _, hg, hc, hm', hs, ht⟩
  · have : ts = [] := List.eq_nil_of_length_eq_zero h0
    subst this
    exact RdC.nil 4 w
  · refine ⟨some ⟨g, 0, none⟩, ts.length, cap, rfl, by simp, hc, by unfold maxLen at hm'; omega, fun _ => ⟨g, 0, rfl, fun i hi j u hu => ?_⟩⟩
    have hi' : i < ts.length := by simpa using hi
    rw [List.getElem_map] at hu
    have h9 := h.own.cells (g := g) rfl (i * 4 + j) u (dfC_get ts i hi' j u hu)
    rw [Addr.add_lit, Nat.zero_add] at h9
    rw [Nat.zero_add]
    exact h9
theorem OwnFl.kept {L : List Nat} {B : Nat} {w w' : World} {v : Value} {ts : List (DF × Value)} (h : OwnFl B w v ts) (k : Kept L w w') (hv : ∀ x ∈ blk v, x ∉ L) (ht : ∀ t ∈ ts, ∀ x ∈ blk t.2, x ∉ L) : OwnFl B w' v ts :=
  ⟨k.owns h.own (fun x hx => hv x (own_blk hx)), fun t h1 => ⟨k.owns (h.el t h1).1 (fun x hx => ht t h1 x (own_blk hx)), (h.el t h1).2⟩, h.ap⟩
theorem blk_own4 {w : World} {base e s n : Nat} {v : Value} {xs : List Value} (h : w.ownsRow base e s v n xs) {x : Nat} (hx : x ∈ blk v) : v.ownBlock = some x := by
  rcases h.2 with ⟨rfl, _⟩ | ⟨g, cap, cur, rfl, _, hg, _⟩
  · simp [blk] at hx
  · simp only [blk, List.mem_singleton] at hx
    subst hx
    rfl
/-- The blocks of a list of files. -/
def flB (v : Value) (ts : List (DF × Value)) : List Nat := blk v ++ ts.flatMap fun t => blk t.2
theorem OwnFl.ge {B : Nat} {w : World} {v : Value} {ts : List (DF × Value)} (h : OwnFl B w v ts) : ∀ x ∈ flB v ts, B ≤ x ∧ x < w.heap.size := by
  intro x hx
  simp only [flB, List.mem_append, List.mem_flatMap] at hx
  rcases hx with hx | ⟨t, ht, hx⟩
  · exact h.own.lt x (blk_own4 h.own hx)
  · exact (h.el t ht).1.lt x (blk_own (h.el t ht).1 hx)
theorem OwnFl.keptF {L : List Nat} {B : Nat} {w w' : World} {v : Value} {ts : List (DF × Value)} (h : OwnFl B w v ts) (k : Kept L w w') (hn : ∀ x ∈ flB v ts, x ∉ L) : OwnFl B w' v ts :=
  h.kept k (fun x hx => hn x (by simp [flB, hx])) (fun t ht x hx => hn x (by simp only [flB, List.mem_append, List.mem_flatMap]; exact .inr ⟨t, ht, hx⟩))

theorem Try.infoF : (Try.prog.info? 54).map (fun i => (i.zero, i.size, i.bytes)) = some (some (.agg #[.string ⟨#[]⟩, .slice none 0 0, .int .i64 0, .bool false]), 4, 56) := by kernel_rfl
/-- One file more. -/
theorem pushFl (w : World) (B : Nat) (v : Value) (ts : List (DF × Value)) (t : DF × Value) (H : Nat) (h : OwnFl B w v ts) (hnew : w.heap[H]? = some (.cells (dfC t).toArray 54 (0, 0))) (ho : w.ownsRow B 5 1 t.2 t.1.bs.length (t.1.bs.map u8) ∧ (∀ x ∈ t.1.bs, x < 256) ∧ t.1.bs.length ≤ 140737488355328)
    (ha : ∀ a ∈ ts, ∀ x ∈ blk a.2, x ∉ blk t.2) (hl : ts.length + 1 ≤ 1000000000) (hb : B ≤ w.heap.size) :
    ∃ g cap w1, (Builtin.append_ #[22, 22] 22 #[v, .slice (some ⟨H, 0, none⟩) 1 1]).run Try.prog w = .ok (.slice (some ⟨g, 0, none⟩) (ts.length + 1) cap) w1 ∧
      OwnFl B w1 (.slice (some ⟨g, 0, none⟩) (ts.length + 1) cap) (ts ++ [t]) ∧ w.grownBy w1 v.ownBlock ∧ (v.ownBlock = some g ∨ g = w.heap.size) := by
  obtain ⟨i0, hi, hz0, hz1, hz2⟩ := info_parts Try.infoF
  obtain ⟨ao, len, cap0, hv2⟩ : ∃ ao len cap, t.2 = .slice ao len cap := by
    obtain ⟨a, c, h9⟩ := owns_shape ho.1
    exact ⟨a, _, c, h9⟩
  obtain ⟨g, cap, w1, hr, hown, hgrow, hat, hlt⟩ := run_append_lies (P := Try.prog) w 22 22 B 54 i0 (.agg #[.string ⟨#[]⟩, .slice none 0 0, .int .i64 0, .bool false]) 4 56 Try.underlying22 hi hz0 hz1 hz2 rfl (by decide)
    v ts.length (ts.flatMap dfC) h.own ⟨H, 0, none⟩ 1 1 (dfC t) rfl (World.news_of_block hnew) (by intro u hu; simp only [dfC, List.mem_cons, List.not_mem_nil, or_false] at hu; rcases hu with rfl | rfl | rfl | rfl; rfl; rw [hv2]; rfl; rfl; rfl) (by decide) (by unfold maxLen; omega) (by omega) hb _ rfl
  have k1 : Kept v.ownBlock.toList w w1 := (Kept.refl _ w).grown hgrow (by intro k hk; left; simp [hk])
  have hty : ∀ {x : Nat} {cs : Array Value}, w.heap[x]? = some (.cells cs 5 (0, 0)) → x ∉ v.ownBlock.toList := by
    intro x cs hx hm
    simp only [Option.mem_toList] at hm
    rcases h.own.2 with ⟨hv, _⟩ | ⟨g9, c9, cur9, hv, _, hg9, _⟩
    · rw [hv] at hm; cases hm
    · rw [hv] at hm
      injection hm with hm
      subst hm
      exact cells_ne hx hg9 (by decide) rfl
  refine ⟨g, cap, w1, hr, ⟨?_, ?_, ?_⟩, hgrow, hat⟩
  · rw [List.flatMap_append, List.length_append]
    simpa using hown
  · intro a ha2
    rw [List.mem_append, List.mem_singleton] at ha2
    have h9 : w.ownsRow B 5 1 a.2 a.1.bs.length (a.1.bs.map u8) ∧ (∀ x ∈ a.1.bs, x < 256) ∧ a.1.bs.length ≤ 140737488355328 := by
      rcases ha2 with h1 | rfl
      · exact h.el a h1
      · exact ho
    refine ⟨k1.owns h9.1 ?_, h9.2⟩
    intro x hx
    obtain ⟨cs, hc⟩ := owns_cells h9.1 (own_blk hx)
    exact hty hc
  · rw [List.pairwise_append]
    exact ⟨h.ap, List.pairwise_singleton _ _, by intro a h1 b h2; rw [List.mem_singleton] at h2; subst h2; exact ha a h1⟩

theorem look_ptr1 {w : World} {b n : Nat} {D : DataW Unit} {f : List UInt8 → Option Nat} (hown : w.ownsMap Try.prog 9 ptrElem b n D) (hD : MapIs D f) (s : ByteArray) (hk : keyOf Try.prog 9 (.string s) = some (.string s.data.toList)) {g : Nat} (hg : f s.data.toList = some g) :
    (Instr.lookup 77 (.map (some b)) (.string s) false).run Try.prog w = .ok (.pointer (some ⟨g, 0, none⟩)) w := by
  obtain ⟨v, ps, hrun, hv⟩ := hown.lookup keyS Try.underlying77 (zeroPF _) ptrElem_nil hk
  rw [(hD _).2, hg] at hv
  rw [hrun]
  rcases ptrElem_inv hv with ⟨rfl, h⟩ | ⟨g', rfl, h⟩
  · simp at h
  · simp at h
    have : g = g' := by omega
    subst this
    rfl
theorem wp_appendFl {o : Oper} {a : Act} {w : World} {K : Act → World → Prop} {Q : Exit → Act → World → Prop} {s x : Operand} (ho : o.op = .call { callee := .builtin .append, args := #[s, x], argTypes := #[22, 22] }) (hty : o.type = 22) {v u r : Value} {w1 : World} (hs : a.eval s = v) (hx : a.eval x = u)
    (hrun : (Builtin.append_ #[22, 22] 22 #[v, u]).run Try.prog w = .ok r w1) (hK : K (a.put o.dst r) w1) : o.wp Try.prog a w K Q := by
  unfold Oper.wp execOp
  simp only [ho, hty, resolve, invoke, builtin, Sem.run_bind, Sem.run_pure, Result.andThen_ok, List.map_toArray, List.map_cons, List.map_nil, hs, hx, hrun]
  exact hK
end Go.Proofs.Ytlopdlcepmmjdaa
