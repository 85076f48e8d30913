import Derived.Test.YtlopdlcepmmjdaaTopA
import Derived.Test.YtlopdlcepmmjdaaDkE
import Derived.Laws.IdiomStrings
import Derived.Test.YtlopdlcepmmjdaaRowz
import Derived.Deep.RegionHeld3
import Derived.Test.YtlopdlcepmmjdaaQWp
namespace Go.Proofs.Ytlopdlcepmmjdaa
open Go.RowKit Go.BigFrame Go.Maps Go.Sort
set_option linter.unusedVariables false
set_option linter.unusedSimpArgs false

theorem ifC_len (ts : List IFile) : (ts.flatMap ifC).length = ts.length * 4 := by
  induction ts with
  | nil => rfl
  | cons t r ih => simp only [List.flatMap_cons, List.length_append, List.length_cons, ifC, List.length_nil] at ih ⊢; omega
theorem ifC_get : ∀ (ts : List IFile) (i : Nat) (h : i < ts.length) (j : Nat) (v : Value), (ifC ts[i])[j]? = some v → (ts.flatMap ifC)[i * 4 + j]? = some v
  | t :: r, 0, _, j, v, hv => by
    have hj := (List.getElem?_eq_some_iff.1 hv).1
    rw [List.flatMap_cons, List.getElem?_append_left (by simpa using hj)]
    simpa using hv
  | t :: r, i + 1, h, j, v, hv => by
    have h' : i < r.length := by simpa using h
    have h1 := ifC_get r i h' j v (by simpa using hv)
    rw [List.flatMap_cons, List.getElem?_append_right (by simp [ifC]; omega)]
    rw [show (i + 1) * 4 + j - (ifC t).length = i * 4 + j by simp [ifC]; omega]
    exact h1
/-- Files that are owned, each file's bytes in memory of their own. -/
structure OwnI (B : Nat) (w : World) (v : Value) (ts : List IFile) : Prop where
  own : w.ownsRow B 54 4 v ts.length (ts.flatMap ifC)
  el : ∀ t ∈ ts, w.ownsRow B 5 1 t.v t.bs.length (t.bs.map u8) ∧ (∀ x ∈ t.bs, x < 256) ∧ t.bs.length ≤ 140737488355328
  ap : ts.Pairwise fun a b => ∀ x ∈ blk a.v, x ∉ blk b.v
theorem OwnI.nil (B : Nat) (w : World) : OwnI B w (.slice none 0 0) [] := ⟨World.ownsRow_nil _ _ _ _, by simp, List.Pairwise.nil⟩
/-- One file more. -/
theorem pushI (w : World) (B : Nat) (v : Value) (ts : List IFile) (t : IFile) (H : Nat) (h : OwnI B w v ts) (hnew : w.heap[H]? = some (.cells (ifC t).toArray 54 (0, 0))) (ho : w.ownsRow B 5 1 t.v t.bs.length (t.bs.map u8) ∧ (∀ x ∈ t.bs, x < 256) ∧ t.bs.length ≤ 140737488355328)
    (ha : ∀ a ∈ ts, ∀ x ∈ blk a.v, x ∉ blk t.v) (hl : ts.length + 1 ≤ 1000000000) (hb : B ≤ w.heap.size) :
    ∃ g cap w1, (Builtin.append_ #[22, 22] 22 #[v, .slice (some ⟨H, 0, none⟩) 1 1]).run Try.prog w = .ok (.slice (some ⟨g, 0, none⟩) (ts.length + 1) cap) w1 ∧
      OwnI B w1 (.slice (some ⟨g, 0, none⟩) (ts.length + 1) cap) (ts ++ [t]) ∧ w.grownBy w1 v.ownBlock ∧ (v.ownBlock = some g ∨ g = w.heap.size) := by
  obtain ⟨i0, hi, hz0, hz1, hz2⟩ := info_parts Try.infoF
  obtain ⟨ao, len, cap0, hv2⟩ : ∃ ao len cap, t.v = .slice ao len cap := by
    obtain ⟨a, c, h9⟩ := owns_shape ho.1
    exact ⟨a, _, c, h9⟩
  obtain ⟨g, cap, w1, hr, hown, hgrow, hat, hlt⟩ := run_append_lies (P := Try.prog) w 22 22 B 54 i0 (.agg #[.string ⟨#[]⟩, .slice none 0 0, .int .i64 0, .bool false]) 4 56 Try.underlying22 hi hz0 hz1 hz2 rfl (by decide)
    v ts.length (ts.flatMap ifC) h.own ⟨H, 0, none⟩ 1 1 (ifC t) rfl (World.news_of_block hnew) (by intro u hu; simp only [ifC, List.mem_cons, List.not_mem_nil, or_false] at hu; rcases hu with rfl | rfl | rfl | rfl; rfl; rw [hv2]; rfl; rfl; rfl) (by decide) (by unfold maxLen; omega) (by omega) hb _ rfl
  have k1 : Kept v.ownBlock.toList w w1 := (Kept.refl _ w).grown hgrow (by intro k hk; left; simp [hk])
  have hty : ∀ {x : Nat} {cs : Array Value}, w.heap[x]? = some (.cells cs 5 (0, 0)) → x ∉ v.ownBlock.toList := by
    intro x cs hx hm
    simp only [Option.mem_toList] at hm
    rcases h.own.2 with ⟨hv, _⟩ | ⟨g9, c9, cur9, hv, _, hg9, _⟩
    · rw [hv] at hm; cases hm
    · rw [hv] at hm
      injection hm with hm
      subst hm
      exact cells_ne hx hg9 (by decide) rfl
  refine ⟨g, cap, w1, hr, ⟨?_, ?_, ?_⟩, hgrow, hat⟩
  · rw [List.flatMap_append, List.length_append]
    simpa using hown
  · intro a ha2
    rw [List.mem_append, List.mem_singleton] at ha2
    have h9 : w.ownsRow B 5 1 a.v a.bs.length (a.bs.map u8) ∧ (∀ x ∈ a.bs, x < 256) ∧ a.bs.length ≤ 140737488355328 := by
      rcases ha2 with h1 | rfl
      · exact h.el a h1
      · exact ho
    refine ⟨k1.owns h9.1 ?_, h9.2⟩
    intro x hx
    obtain ⟨cs, hc⟩ := owns_cells h9.1 (own_blk hx)
    exact hty hc
  · rw [List.pairwise_append]
    exact ⟨h.ap, List.pairwise_singleton _ _, by intro a h1 b h2; rw [List.mem_singleton] at h2; subst h2; exact ha a h1⟩


theorem OwnI.kept {L : List Nat} {B : Nat} {w w' : World} {v : Value} {ts : List IFile} (h : OwnI B w v ts) (k : Kept L w w') (hv : ∀ x ∈ blk v, x ∉ L) (ht : ∀ t ∈ ts, ∀ x ∈ blk t.v, x ∉ L) : OwnI B w' v ts :=
  ⟨k.owns h.own (fun x hx => hv x (own_blk hx)), fun t h1 => ⟨k.owns (h.el t h1).1 (fun x hx => ht t h1 x (own_blk hx)), (h.el t h1).2⟩, h.ap⟩
theorem OwnI.old {B : Nat} {w w' : World} {v : Value} {ts : List IFile} (h : OwnI B w v ts) (k : Kept [] w w') : OwnI B w' v ts := h.kept k (by simp) (by simp)
theorem OwnI.rd {B : Nat} {w : World} {v : Value} {ts : List IFile} (h : OwnI B w v ts) : RdC 4 w v (ts.map ifC) ∧ ∀ t ∈ ts, Rd w t.v t.bs := by
  refine ⟨?_, fun t ht => rd_owns (h.el t ht).1 (h.el t ht).2.1 (h.el t ht).2.2⟩
  rcases h.own.2 with ⟨rfl, h0⟩ | ⟨g, cap, cur, rfl, _, hg, hc, hm', hs, ht⟩
  · have : ts = [] := List.eq_nil_of_length_eq_zero h0
    subst this
    exact RdC.nil 4 w
  · refine ⟨some ⟨g, 0, none⟩, ts.length, cap, rfl, by simp, hc, by unfold maxLen at hm'; omega, fun _ => ⟨g, 0, rfl, fun i hi j u hu => ?_⟩⟩
    have hi' : i < ts.length := by simpa using hi
    rw [List.getElem_map] at hu
    have h9 := h.own.cells (g := g) rfl (i * 4 + j) u (ifC_get ts i hi' j u hu)
    rw [Addr.add_lit, Nat.zero_add] at h9
    rw [Nat.zero_add]
    exact h9
theorem OwnI.fl {B : Nat} {w : World} {v : Value} {ts : List IFile} (h : OwnI B w v ts) : ∀ x, x ∈ blk v ∨ (∃ t ∈ ts, x ∈ blk t.v) → B ≤ x ∧ x < w.heap.size := by
  rintro x (hx | ⟨t, ht, hx⟩)
  · exact h.own.lt x (blk_own4 h.own hx)
  · exact (h.el t ht).1.lt x (blk_own (h.el t ht).1 hx)
def iK (f : IFile) : ByteArray × List Nat × Int × Bool := (f.nm, f.bs, f.sy, f.nd)
end Go.Proofs.Ytlopdlcepmmjdaa
namespace Go.Proofs.Ytlopdlcepmmjdaa
open Go.RowKit Go.BigFrame Go.Maps Go.Sort
set_option linter.unusedVariables false
set_option linter.unusedSimpArgs false

theorem wpList_pushI {ops : Array Oper} {rest : List Oper} {o : Oper} {a : Act} {Q : Exit → Act → World → Prop} (hgd : o.guard = none) (s x : Operand)
    (ho : o.op = .call { callee := .builtin .append, args := #[s, x], argTypes := #[22, 22] }) (hty : o.type = 22)
    (w : World) (B : Nat) (v : Value) (ts : List IFile) (t : IFile) (H : Nat) (h : OwnI B w v ts) (hnew : w.heap[H]? = some (.cells (ifC t).toArray 54 (0, 0))) (ho2 : w.ownsRow B 5 1 t.v t.bs.length (t.bs.map u8) ∧ (∀ x ∈ t.bs, x < 256) ∧ t.bs.length ≤ 140737488355328)
    (ha : ∀ a ∈ ts, ∀ x ∈ blk a.v, x ∉ blk t.v) (hl : ts.length + 1 ≤ 1000000000) (hb : B ≤ w.heap.size) (hs : a.eval s = v) (hx : a.eval x = .slice (some ⟨H, 0, none⟩) 1 1)
    (hK : ∀ g cap w1, Hid (OwnI B w1 (.slice (some ⟨g, 0, none⟩) (ts.length + 1) cap) (ts ++ [t])) → Hid (w.grownBy w1 v.ownBlock) →
      wpList Try.prog ops Q rest (a.put o.dst (.slice (some ⟨g, 0, none⟩) (ts.length + 1) cap)) w1) :
    wpList Try.prog ops Q (o :: rest) a w := by
  obtain ⟨g, cap, w1, hrun, h2, h3, h4⟩ := pushI w B v ts t H h hnew ho2 ha hl hb
  refine wpList_plain hgd fun K hK' => ?_
  unfold Oper.wp execOp
  simp only [ho, hty, resolve, invoke, builtin, Sem.run_bind, Sem.run_pure, Result.andThen_ok, List.map_toArray, List.map_cons, List.map_nil, hs, hx, hrun]
  exact hK' _ _ (hK g cap w1 h2 h3)

set_option maxRecDepth 100000 in
set_option maxHeartbeats 2000000 in
theorem twins_any (v : Value) (l : List IFile) (w : World) (h : RdC 4 w v (l.map ifC)) (ho : ∀ f ∈ l, Rd w f.v f.bs) (hl : l.length ≤ 1048576) :
    Calls Try.prog 9 #[v] w fun e w' => ∃ v' ts, e = .returned v' ∧ OwnI w.heap.size w' v' ts ∧ ts.map iK = l.map iK ∧ Kept [] w w' := by
  obtain ⟨ao, len, cap, rfl, h1, h2, h3, h4⟩ := h
  rw [List.length_map] at h1
  subst h1
  have H4 := hide h4
  have HO := hide ho
  clear h4 ho
  go_enter Try.func9, Try.ntmps9
  go_wp2_with fail
  go_loopw [3, 8] (fun v t8 wr => ∃ (i : Nat) (ts : List IFile), i ≤ l.length ∧ t8 = .int .i64 i ∧ Hid (OwnI w.heap.size wr v ts) ∧ Hid (ts.map iK = (l.take i).map iK) ∧ Hid (Kept [] w wr)) (fun _ t _ => l.length - (intOf t).toNat)
  case atStart => exact ⟨0, [], Nat.zero_le _, rfl, hide (OwnI.nil _ _), hide rfl, hide (Kept.refl _ _)⟩
  case round =>
    obtain ⟨i, ts, hi, rfl, HOW, HTS, HK⟩ := hrel
    obtain ⟨va, vl, vc, hv⟩ : ∃ va vl vc, u3 = .slice va vl vc := by
      obtain ⟨a, l, c, h9, _⟩ := (unhide HOW).rd.1
      exact ⟨a, l, c, h9⟩
    subst hv
    have HTL := hide (by have := congrArg List.length (unhide HTS); rw [List.length_map, List.length_map, List.length_take] at this; omega : ts.length = i)
    by_cases hlt : i < l.length
    · have hlt' : (i : Int) < l.length := by omega
      obtain ⟨b, off, rfl, hcc⟩ := unhide H4 (by omega)
      have hr := hcc i (by rw [List.length_map]; exact hlt)
      rw [List.getElem_map] at hr
      have p0 := (unhide HK).cell (hr 0 _ rfl) (by simp)
      have p1 := (unhide HK).cell (hr 1 _ rfl) (by simp)
      have p2 := (unhide HK).cell (hr 2 _ rfl) (by simp)
      have p3 := (unhide HK).cell (hr 3 _ rfl) (by simp)
      rw [Nat.add_zero] at p0
      have hof := unhide HO l[i] (List.getElem_mem hlt)
      have HT := hide (List.take_succ_eq_append_getElem hlt)
      clear hr hcc
      obtain ⟨xa, xl, xc, hv⟩ := (show ∃ va vl vc, l[i].v = .slice va vl vc by obtain ⟨a, b, c, h9, _⟩ := hof; exact ⟨a, b, c, h9⟩)
      rw [hv] at p1
      have HRD := hide (by rw [← hv]; exact hof.kept (unhide HK) (by simp) : Rd wr (.slice xa xl xc) l[i].bs)
      have HLN := hide (show l[i].bs.length ≤ 140737488355328 by obtain ⟨a, b, c, h9, h10, h11, h12, _⟩ := hof; omega)
      clear hof hv
      generalize l[i] = X at p0 p1 p2 p3 HT HRD HLN
      go_upto_region 5 with fail
      have HG1 := hide (heap_alloc_new wr (.cells #[.string X.nm, .slice xa xl xc, .int .i64 X.sy, .bool X.nd] 54 (0, 0)))
      have HKa := hide ((Kept.refl [] wr).alloc (.cells #[.string X.nm, .slice xa xl xc, .int .i64 X.sy, .bool X.nd] 54 (0, 0)))
      obtain ⟨W1, hW1⟩ : ∃ W, wr.alloc (.cells #[.string X.nm, .slice xa xl xc, .int .i64 X.sy, .bool X.nd] 54 (0, 0)) = W := ⟨_, rfl⟩
      rw [hW1] at HG1 HKa ⊢
      clear hW1 p0 p1 p2 p3
      have q1 := cell_of_row _ _ 1 _ _ _ (unhide HG1)
      simp at q1
      have HS1 := hide (unhide HKa).size
      go_wp2_with fail
      refine Calls.mono (twin_any (.slice xa xl xc) X.bs W1 ((unhide HRD).kept (unhide HKa) (by simp))) ?_
      rintro e w2 ⟨rfl, k2, hh2⟩
      have HG2 := hide (k2.heap (unhide HG1) (by simp))
      have HH2 := hide hh2
      have HK2 := hide ((unhide HKa).trans k2 (by simp))
      have HGN := hide (lt_of_block (unhide HG1))
      clear k2 hh2 q1
      have q1 := cell_of_row _ _ 1 _ _ _ (unhide HG2)
      simp at q1
      have z1 := frozen_of_row _ _ 1 _ _ (unhide HG2)
      go_upto_region 6 with fail
      have HG3 := hide (heap_setCell_same w2 _ 1 _ _ (.slice (some ⟨W1.heap.size, 0, none⟩) X.bs.length X.bs.length) (unhide HG2))
      have HK3 := hide ((unhide HK2).setCell (p := ⟨wr.heap.size, 1, none⟩) (.inr (Nat.le_refl _)) (.slice (some ⟨W1.heap.size, 0, none⟩) X.bs.length X.bs.length))
      have HH3 := hide (((Kept.refl [wr.heap.size] w2).setCell (p := ⟨wr.heap.size, 1, none⟩) (.inl (by simp)) (.slice (some ⟨W1.heap.size, 0, none⟩) X.bs.length X.bs.length)).heap (unhide HH2) (by have := unhide HGN; simp; omega))
      obtain ⟨W3, hW3⟩ : ∃ W, w2.setCell ⟨wr.heap.size, 1, none⟩ (.slice (some ⟨W1.heap.size, 0, none⟩) X.bs.length X.bs.length) = W := ⟨_, rfl⟩
      rw [hW3] at HG3 HK3 HH3 ⊢
      clear hW3 q1 z1
      have r0 := cell_of_row _ _ 0 _ _ _ (unhide HG3)
      have r1 := cell_of_row _ _ 1 _ _ _ (unhide HG3)
      have r2 := cell_of_row _ _ 2 _ _ _ (unhide HG3)
      have r3 := cell_of_row _ _ 3 _ _ _ (unhide HG3)
      simp at r0 r1 r2 r3
      have HK4 := hide ((unhide HK3).alloc (.cells #[.string X.nm, .slice (some ⟨W1.heap.size, 0, none⟩) X.bs.length X.bs.length, .int .i64 X.sy, .bool X.nd] 54 (0, 0)))
      have HH4 := hide (((Kept.refl [] W3).alloc (.cells #[.string X.nm, .slice (some ⟨W1.heap.size, 0, none⟩) X.bs.length X.bs.length, .int .i64 X.sy, .bool X.nd] 54 (0, 0))).heap (unhide HH3) (by simp))
      have HN4 := hide (heap_alloc_new W3 (.cells #[.string X.nm, .slice (some ⟨W1.heap.size, 0, none⟩) X.bs.length X.bs.length, .int .i64 X.sy, .bool X.nd] 54 (0, 0)))
      have HBW := hide (unhide HK).size
      have HAA := hide (by
        intro a ha x hx hy
        simp only [blk, List.mem_singleton] at hy
        have := ((unhide HOW).fl x (.inr ⟨a, ha, hx⟩)).2
        have := unhide HS1
        omega : ∀ a ∈ ts, ∀ x ∈ blk a.v, x ∉ blk (.slice (some ⟨W1.heap.size, 0, none⟩) X.bs.length X.bs.length))
      go_wp2_with (at_builtin; refine wpList_pushI rfl _ _ rfl rfl _ w.heap.size (.slice va vl vc) ts ⟨X.nm, .slice (some ⟨W1.heap.size, 0, none⟩) X.bs.length X.bs.length, X.bs, X.sy, X.nd⟩ W3.heap.size ((unhide HOW).old (unhide HK4)) (unhide HN4) ⟨owns_fresh (unhide HH4) (unhide HLN) (by have := unhide HS1; have := unhide HBW; omega), (unhide HRD).byte, unhide HLN⟩ (unhide HAA) (by have := unhide HTL; omega) (Nat.le_trans (unhide HBW) (unhide HK4).size) rfl rfl ?_; intro g5 cap5 w5 HO5 HGR5)
      refine ⟨⟨i + 1, _, by omega, by simp, HO5, hide ?_, hide ?_⟩, ?_⟩
      · rw [unhide HT, List.map_append, List.map_append, unhide HTS]
        rfl
      · exact ((unhide HK).trans (unhide HK4) (by simp)).grown (unhide HGR5) (by intro x hx; right; exact ((unhide HOW).own.lt x hx).1)
      · simp [intOf]; omega
    · have hlt' : ¬ (i : Int) < l.length := by omega
      have hie : i = l.length := by omega
      subst hie
      rw [List.take_length] at HTS
      go_wp2_with fail
      go_ret
      exact ⟨_, rfl, ts, unhide HOW, unhide HTS, unhide HK⟩
end Go.Proofs.Ytlopdlcepmmjdaa
namespace Go.Proofs.Ytlopdlcepmmjdaa
open Go.RowKit Go.BigFrame Go.Maps Go.Sort
set_option linter.unusedVariables false
set_option linter.unusedSimpArgs false

theorem formed_key {l l' : List IFile} (h : l'.map iK = l.map iK) : formedB l' = formedB l ∧ l'.map toDF = l.map toDF ∧ l'.length = l.length := by
  have hl : l'.length = l.length := by have := congrArg List.length h; simpa using this
  have hi : ∀ i (h1 : i < l.length) (h2 : i < l'.length), iK l'[i] = iK l[i] := by
    intro i h1 h2
    have := congrArg (fun x => x[i]?) h
    simpa [List.getElem?_eq_getElem h1, List.getElem?_eq_getElem h2] using this
  refine ⟨?_, ?_, hl⟩
  · rw [Bool.eq_iff_iff, formedB_iff, formedB_iff]
    have key : ∀ (a b : List IFile), a.length = b.length → (∀ i (h1 : i < b.length) (h2 : i < a.length), iK a[i] = iK b[i]) → FormedL b → FormedL a := by
      intro a b hab hk hf i hia
      have hib : i < b.length := by omega
      have e := hk i hib hia
      simp only [iK, Prod.mk.injEq] at e
      obtain ⟨f1, f2, f3, f4⟩ := hf i hib
      refine ⟨by rw [e.1]; exact f1, by rw [e.2.2.1]; exact f2, by rw [e.2.2.1, e.2.1]; exact f3, fun hp => ?_⟩
      have e2 := hk (i - 1) (by omega) (by omega)
      simp only [iK, Prod.mk.injEq] at e2
      rw [e.1, e2.1]
      exact f4 hp
    exact ⟨key l l' hl.symm (fun i h1 h2 => (hi i h2 h1).symm), key l' l hl hi⟩
  · have e : ∀ f : IFile, toDF f = (fun (x : ByteArray × List Nat × Int × Bool) => (⟨x.1, x.2.1, x.2.2.1.toNat, x.2.2.2⟩ : DF)) (iK f) := fun f => rfl
    have : ∀ a : List IFile, a.map toDF = (a.map iK).map (fun (x : ByteArray × List Nat × Int × Bool) => (⟨x.1, x.2.1, x.2.2.1.toNat, x.2.2.2⟩ : DF)) := by
      intro a
      rw [List.map_map]
      rfl
    rw [this, this, h]
theorem OwnI.ok {B : Nat} {w : World} {v : Value} {ts l : List IFile} (h : OwnI B w v ts) (hk : ts.map iK = l.map iK) (ho : ∀ f ∈ l, f.nm.size ≤ 1048576 ∧ Rng f.sy) : ∀ f ∈ ts, OkIf w f := by
  intro f hf
  have h1 : iK f ∈ l.map iK := by rw [← hk]; exact List.mem_map.2 ⟨f, hf, rfl⟩
  obtain ⟨a, ha, hae⟩ := List.mem_map.1 h1
  simp only [iK, Prod.mk.injEq] at hae
  exact ⟨h.rd.2 f hf, by rw [← hae.1]; exact (ho a ha).1, by rw [← hae.2.2.1]; exact (ho a ha).2⟩

def tupAt : Value → Nat → Value
  | .tuple xs, i => xs.toList.getD i undef
  | _, _ => undef
/-- What From answers: the disk, or none. -/
def FrR (sec : Int) (l : List IFile) : Nat := if 1 ≤ sec ∧ sec ≤ 4096 then (if formedB l then 0 else 3) else 1
theorem fromT_any (sec : Int) (v : Value) (l ts : List IFile) (B bb : Nat) (w : World) (h : OwnI B w v ts) (hk : ts.map iK = l.map iK) (ho : ∀ f ∈ l, f.nm.size ≤ 1048576 ∧ Rng f.sy) (hl : l.length ≤ 1048576) (hb : ∀ f ∈ l, f.bs.length ≤ bb) :
    Calls Try.prog 8 #[.int .i64 sec, v] w fun e w' => ∃ p, e = .returned (.tuple #[p, .int .i64 (FrR sec l : Nat)]) ∧ Kept [] w w' ∧ (FrR sec l ≠ 0 → p = .pointer none) ∧ (FrR sec l = 0 → ∃ d D, p = .pointer (some ⟨d, 0, none⟩) ∧ DK w' d D l.length bb ⟨sec.toNat, 0, 0, false, fun _ => none, l.map toDF⟩ ∧ ∀ x ∈ D, w.heap.size ≤ x) := by
  obtain ⟨k1, k2, k3⟩ := formed_key hk
  have hok := h.ok hk ho
  unfold FrR
  by_cases hs : 1 ≤ sec ∧ sec ≤ 4096
  · rw [if_pos hs]
    cases hf : formedB l
    · refine Calls.mono (from_form sec v ts w hs.1 hs.2 h.rd.1 hok (by omega) (by rw [k1]; exact hf)) ?_
      rintro e w' ⟨rfl, kk⟩
      exact ⟨_, rfl, kk, fun _ => rfl, fun h9 => by simp at h9⟩
    · have hs2 : ((sec.toNat : Nat) : Int) = sec := by omega
      have hc := from_D sec.toNat v ts bb w (by omega) (by omega) h.rd.1 hok (by omega) (by
        intro f hf2
        have h1 : iK f ∈ l.map iK := by rw [← hk]; exact List.mem_map.2 ⟨f, hf2, rfl⟩
        obtain ⟨a, ha, hae⟩ := List.mem_map.1 h1
        simp only [iK, Prod.mk.injEq] at hae
        rw [← hae.2.1]
        exact hb a ha) (by rw [k1]; exact hf)
      rw [hs2] at hc
      refine Calls.mono hc ?_
      rintro e w' ⟨d, D, rfl, hd, kk, hn⟩
      rw [k2, k3] at hd
      exact ⟨_, rfl, kk, fun h9 => absurd rfl h9, fun _ => ⟨d, D, rfl, hd, hn⟩⟩
  · rw [if_neg hs]
    refine Calls.mono (from_arg sec v w (by omega)) ?_
    rintro e w' ⟨rfl, rfl⟩
    exact ⟨_, rfl, Kept.refl _ _, fun _ => rfl, fun h9 => by simp at h9⟩

theorem okOp_old {w w' : World} {o : OpD} (h : OkOp w o) (k : Kept [] w w') : OkOp w' o := ⟨h.k, h.s, h.p.kept k (by simp), h.f.old k, h.fr, h.cr, h.n, h.kk.old k, h.kr⟩
theorem stepD_sec (σ : DSt) (o : OpD) : (stepD σ o).2.sec = σ.sec := by
  unfold stepD
  (repeat' split) <;> first | rfl | (unfold stCreate; split <;> rfl) | (unfold stAppend; (repeat' split) <;> rfl) | (unfold stSync; (repeat' split) <;> rfl) | (unfold stNames; split <;> rfl)
theorem opW_take {os : List OpD} {i : Nat} (h : i < os.length) : ((os.take (i + 1)).map opW).sum = ((os.take i).map opW).sum + opW os[i] := by
  rw [List.take_succ_eq_append_getElem h, List.map_append, List.sum_append]
  simp
theorem opW_le {os : List OpD} (i : Nat) : ((os.take i).map opW).sum ≤ (os.map opW).sum := by
  conv => rhs; rw [← List.take_append_drop i os, List.map_append, List.sum_append]
  omega
theorem fsum_mem {l : List IFile} {f : IFile} (h : f ∈ l) : f.bs.length + 1 ≤ (l.map fun f => f.bs.length + 1).sum := by
  induction l with
  | nil => simp at h
  | cons a l ih =>
    rcases List.mem_cons.1 h with rfl | h
    · simp
    · have := ih h; simp only [List.map_cons, List.sum_cons]; omega
theorem fsum_len (l : List IFile) : l.length ≤ (l.map fun f => f.bs.length + 1).sum := sum_len l _ (by intro a; omega)

end Go.Proofs.Ytlopdlcepmmjdaa
namespace Go.Proofs.Ytlopdlcepmmjdaa
open Go.RowKit Go.BigFrame Go.Maps Go.Sort
set_option linter.unusedVariables false
set_option linter.unusedSimpArgs false

theorem RdFl.kept {L : List Nat} {w w' : World} {v : Value} {ts : List (DF × Value)} (h : RdFl w v ts) (k : Kept L w w') (hn : ∀ x ∈ flB v ts, x ∉ L) : RdFl w' v ts :=
  ⟨h.1.kept k (fun x hx => hn x (by simp [flB, hx])), fun t ht => (h.2 t ht).kept k (fun x hx => hn x (by simp only [flB, List.mem_append, List.mem_flatMap]; exact .inr ⟨t, ht, hx⟩))⟩
theorem RdFl.old {w w' : World} {v : Value} {ts : List (DF × Value)} (h : RdFl w v ts) (k : Kept [] w w') : RdFl w' v ts := h.kept k (by simp)

end Go.Proofs.Ytlopdlcepmmjdaa
namespace Go.Proofs.Ytlopdlcepmmjdaa
open Go.RowKit Go.BigFrame Go.Maps Go.Sort
set_option linter.unusedVariables false
set_option linter.unusedSimpArgs false

theorem u8_total (a b : List UInt8) : (decide (a ≤ b) || decide (b ≤ a)) = true := by
  rcases List.le_total a b with h | h <;> simp [h]
theorem srtA_pw (A : List DF) : (srtA A).Pairwise fun a b => a.nm.data.toList ≤ b.nm.data.toList := by
  have h := List.pairwise_mergeSort (le := fun a b : DF => decide (a.nm.data.toList ≤ b.nm.data.toList)) (fun a b c h1 h2 => by simp at h1 h2 ⊢; exact List.le_trans h1 h2) (fun a b => u8_total _ _) A
  exact h.imp (fun h9 => by simpa using h9)
/-- A sorted list of files with these members is the sorted list. -/
theorem srtA_unique {A L : List DF} (hd : Dist A) (hp : L.Perm A) (hs : L.Pairwise fun a b => a.nm.data.toList ≤ b.nm.data.toList) : srtA A = L := by
  refine List.Perm.eq_of_pairwise (le := fun a b => a.nm.data.toList ≤ b.nm.data.toList) ?_ (srtA_pw A) hs ((srtA_perm A).trans hp.symm)
  intro a b ha hb h1 h2
  have ha' := srtA_mem.1 ha
  have hb' := hp.mem_iff.1 hb
  have hn := ba_ext (List.le_antisymm h1 h2)
  have e1 := findA_of hd ha'
  have e2 := findA_of hd hb'
  rw [hn, e2] at e1
  exact (Option.some.inj e1).symm
theorem srtA_map {A : List DF} (hd : Dist A) {g : DF → DF} (hg : ∀ x, (g x).nm = x.nm) : srtA (A.map g) = (srtA A).map g := by
  refine srtA_unique ?_ ((srtA_perm A).map g) ?_
  · rw [dist_iff, List.map_map]
    have : (DF.nm ∘ g) = DF.nm := by funext x; exact hg x
    rw [this]
    exact (dist_iff A).1 hd
  · rw [List.pairwise_map]
    exact (srtA_pw A).imp (fun h => by rw [hg, hg]; exact h)
theorem srtA_filter {A : List DF} (hd : Dist A) (p : DF → Bool) : srtA (A.filter p) = (srtA A).filter p := by
  refine srtA_unique (hd.sublist List.filter_sublist) ((srtA_perm A).filter p) ?_
  exact (srtA_pw A).sublist List.filter_sublist
theorem srtA_dist {A : List DF} (hd : Dist A) : Dist (srtA A) := by
  rw [dist_iff]
  exact ((srtA_perm A).map DF.nm).nodup_iff.2 ((dist_iff A).1 hd)
end Go.Proofs.Ytlopdlcepmmjdaa
namespace Go.Proofs.Ytlopdlcepmmjdaa
open Go.RowKit Go.BigFrame Go.Maps Go.Sort
set_option linter.unusedVariables false
set_option linter.unusedSimpArgs false
theorem OwnFl.shapeL {B : Nat} {w : World} {v : Value} {ts : List (DF × Value)} (h : OwnFl B w v ts) : ∃ a c, v = .slice a ts.length c ∧ (0 < ts.length → ∃ g, a = some ⟨g, 0, none⟩) := by
  rcases h.own.2 with ⟨rfl, h0⟩ | ⟨g, cap, cur, rfl, _⟩
  · exact ⟨none, 0, by rw [h0], fun h9 => by omega⟩
  · exact ⟨_, cap, rfl, fun _ => ⟨g, rfl⟩⟩
theorem owns_two {w : World} {B : Nat} {v : Value} {n : Nat} {xs : List Value} (h : w.ownsRow B 5 1 v n xs) : v = .slice none 0 0 ∨ ∃ g c, v = .slice (some ⟨g, 0, none⟩) n c := by
  rcases h.2 with ⟨rfl, h0⟩ | ⟨g, cap, cur, rfl, _⟩
  · exact .inl rfl
  · exact .inr ⟨g, cap, rfl⟩
theorem rdFl_at {w : World} {g n c i : Nat} {ts : List (DF × Value)} (h : RdFl w (.slice (some ⟨g, 0, none⟩) n c) ts) (hi : i < ts.length) :
    w.cell? ⟨g, i * 4, none⟩ = some (.string ts[i].1.nm) ∧ w.cell? ⟨g, i * 4 + 1, none⟩ = some ts[i].2 ∧ w.cell? ⟨g, i * 4 + 2, none⟩ = some (.int .i64 (ts[i].1.sy : Int)) ∧ w.cell? ⟨g, i * 4 + 3, none⟩ = some (.bool ts[i].1.nd) := by
  obtain ⟨ao, len, cap, e9, r1, r2, r3, r4⟩ := h.1
  cases e9
  rw [List.length_map] at r1
  obtain ⟨b9, o9, e8, hcc⟩ := r4 (by omega)
  cases e8
  have hr := hcc i (by rw [List.length_map]; exact hi)
  rw [List.getElem_map] at hr
  have p0 := hr 0 _ rfl
  have p1 := hr 1 _ rfl
  have p2 := hr 2 _ rfl
  have p3 := hr 3 _ rfl
  simp only [Nat.zero_add, Nat.add_zero] at p0 p1 p2 p3
  exact ⟨p0, p1, p2, p3⟩
theorem fst_at {ts : List (DF × Value)} {S : List DF} (h : ts.map Prod.fst = S) {i : Nat} (h1 : i < ts.length) (h2 : i < S.length) : ts[i].1 = S[i] := by
  have h9 := congrArg (fun l => l[i]?) h
  simpa [List.getElem?_eq_getElem h1, List.getElem?_eq_getElem h2] using h9
theorem DK.syl {w : World} {d nb bb : Nat} {B : List Nat} {σ : DSt} (h : DK w d B nb bb σ) : ∀ f ∈ σ.A, f.sy ≤ f.bs.length := by
  obtain ⟨m, u, fv, fs, h1, rfl, h3⟩ := h.ex
  rw [h3]
  intro f hf
  obtain ⟨a, ha, rfl⟩ := List.mem_map.1 hf
  exact (h1.files a ha).2.2.2
end Go.Proofs.Ytlopdlcepmmjdaa
namespace Go.Proofs.Ytlopdlcepmmjdaa
open Go.RowKit Go.BigFrame Go.Maps Go.Sort
set_option linter.unusedVariables false
set_option linter.unusedSimpArgs false

set_option maxRecDepth 100000 in
set_option maxHeartbeats 2000000 in
theorem named_any (s : ByteArray) (w : World) (hs : s.size ≤ 140737488355328) :
    Calls Try.prog 38 #[.string s] w fun e w' => e = .returned (.bool (isNm s)) ∧ w' = w := by
  by_cases h1 : 1 ≤ s.size
  · by_cases h2 : s.size ≤ 40
    · have e1 : ¬ (s.size : Int) < 1 := by omega
      have e2 : ¬ (40 : Int) < (s.size : Int) := by omega
      have H1 := hide h1
      have H2 := hide h2
      clear h1 h2
      go_enter Try.func38, Try.ntmps38
      go_wp2_with fail
      go_loopw [3] (fun t3 wr => ∃ k : Nat, k ≤ s.size ∧ t3 = .int .i64 k ∧ Hid (∀ j (hj : j < s.size), j < k → nameB (s[j]'hj).toNat = true) ∧ wr = w) (fun t _ => s.size - (intOf t).toNat)
      case atStart => exact ⟨0, Nat.zero_le _, rfl, hide (fun j hj h => by omega), rfl⟩
      case round =>
        obtain ⟨k, hk, rfl, HA, rfl⟩ := hrel
        by_cases hlt : k < s.size
        · have e3 : (k : Int) < (s.size : Int) := by omega
          have hb : (s[k]'hlt).toNat < 256 := (s[k]'hlt).toNat_lt
          have HBAD := hide (fun h9 => isNm_bad hlt h9 : nameB (s[k]'hlt).toNat = false → isNm s = false)
          have HGO := hide (fun h9 j hj h => by
            by_cases hjk : j < k
            · exact unhide HA j hj hjk
            · have : j = k := by omega
              subst this
              exact h9 : nameB (s[k]'hlt).toNat = true → ∀ j (hj : j < s.size), j < k + 1 → nameB (s[j]'hj).toNat = true)
          go_upto_region 7 with fail
          generalize (s[k]'hlt).toNat = c at hb HBAD HGO ⊢
          clear HA
          by_cases hgd : (97 ≤ c ∧ c ≤ 122) ∨ (48 ≤ c ∧ c ≤ 57) ∨ c = 45
          · have HN := hide (unhide HGO (by unfold nameB; simp; omega))
            clear HGO HBAD
            rcases hgd with h9 | h9 | h9
            · have g1 : (97 : Int) ≤ c := by omega
              have g2 : (c : Int) ≤ 122 := by omega
              clear h9
              go_wp2_with fail
              refine ⟨⟨k + 1, by omega, by simp, HN, trivial⟩, ?_⟩
              simp [intOf]; omega
            · have g1 : ¬ (97 : Int) ≤ c := by omega
              have g2 : (48 : Int) ≤ c := by omega
              have g3 : (c : Int) ≤ 57 := by omega
              clear h9
              go_wp2_with fail
              refine ⟨⟨k + 1, by omega, by simp, HN, trivial⟩, ?_⟩
              simp [intOf]; omega
            · have g1 : ¬ (97 : Int) ≤ c := by omega
              have g2 : ¬ (48 : Int) ≤ c := by omega
              have g3 : ((c : Int) == 45) = true := by simp; omega
              clear h9
              go_wp2_with fail
              refine ⟨⟨k + 1, by omega, by simp, HN, trivial⟩, ?_⟩
              simp [intOf]; omega
          · have HN := hide (unhide HBAD (by unfold nameB; simp; omega))
            clear HGO HBAD
            have g3 : ((c : Int) == 45) = false := by simp; omega
            rcases (by omega : 122 < c ∨ (57 < c ∧ c < 97) ∨ c < 48) with h9 | h9 | h9
            · have g1 : (97 : Int) ≤ c := by omega
              have g2 : ¬ (c : Int) ≤ 122 := by omega
              have g4 : (48 : Int) ≤ c := by omega
              have g5 : ¬ (c : Int) ≤ 57 := by omega
              clear h9 hgd
              go_wp2_with fail
              go_ret
              exact ⟨by rw [unhide HN]; rfl, rfl⟩
            · have g1 : ¬ (97 : Int) ≤ c := by omega
              have g4 : (48 : Int) ≤ c := by omega
              have g5 : ¬ (c : Int) ≤ 57 := by omega
              clear h9 hgd
              go_wp2_with fail
              go_ret
              exact ⟨by rw [unhide HN]; rfl, rfl⟩
            · have g1 : ¬ (97 : Int) ≤ c := by omega
              have g4 : ¬ (48 : Int) ≤ c := by omega
              clear h9 hgd
              go_wp2_with fail
              go_ret
              exact ⟨by rw [unhide HN]; rfl, rfl⟩
        · have e3 : ¬ (k : Int) < (s.size : Int) := by omega
          have hk2 : k = s.size := by omega
          go_wp2_with fail
          go_ret
          exact ⟨by rw [isNm_good (unhide H1) (unhide H2) (fun j hj => unhide HA j hj (by omega))]; rfl, rfl⟩
    · rw [isNm_out (by omega)]
      have e2 : (40 : Int) < (s.size : Int) := by omega
      have e1 : ¬ (s.size : Int) < 1 := by omega
      go_enter Try.func38, Try.ntmps38
      go_wp2_with fail
      go_ret
      exact ⟨rfl, rfl⟩
  · rw [isNm_out (by omega)]
    have e1 : (s.size : Int) < 1 := by omega
    go_enter Try.func38, Try.ntmps38
    go_wp2_with fail
    go_ret
    exact ⟨rfl, rfl⟩

theorem owns_zero {w : World} {B : Nat} {e s n : Nat} {v : Value} {xs : List Value} (h : w.ownsRow B e s v n xs) : w.ownsRow 0 e s v n xs := by
  obtain ⟨h1, h2⟩ := h
  refine ⟨h1, ?_⟩
  rcases h2 with h2 | ⟨g, cap, cur, hv, hg, r⟩
  · exact .inl h2
  · exact .inr ⟨g, cap, cur, hv, Nat.zero_le _, r⟩

/-- The document's disk at block c, in its blocks R. -/
structure RK (w : World) (c : Nat) (R : List Nat) (nb bb : Nat) (σ : DSt) : Prop where
  ex : ∃ fsv ts fav fl, w.heap[c]? = some (.cells #[.int .i64 (σ.sec : Int), fsv, fav, .int .i64 σ.cr, .int .i64 σ.op, .bool σ.off] 88 (0, 0)) ∧ OwnFl 0 w fsv ts ∧ ts.map Prod.fst = σ.A ∧ RdC 2 w fav (fl.map faC) ∧ fl.length ≤ nb ∧ fstF fl = σ.ft ∧ c ∉ zblk fav (fl.map faC) ∧ (∀ x ∈ blk fsv, x ∉ zblk fav (fl.map faC)) ∧ (∀ x ∈ zblk fav (fl.map faC), x < w.heap.size) ∧ R = c :: (flB fsv ts ++ zblk fav (fl.map faC))
  opb : 0 ≤ σ.op ∧ σ.op ≤ nb
  len : σ.A.length ≤ nb
  byt : ∀ f ∈ σ.A, f.bs.length ≤ bb
  secb : 1 ≤ σ.sec ∧ σ.sec ≤ 4096
  syl : ∀ f ∈ σ.A, f.sy ≤ f.bs.length
  dist : Dist σ.A
theorem RK.lt {w : World} {c nb bb : Nat} {R : List Nat} {σ : DSt} (h : RK w c R nb bb σ) : ∀ x ∈ R, x < w.heap.size := by
  obtain ⟨fsv, ts, fav, fl, h1, h2, h3, h4, h5, h6, h7, h8, h9, rfl⟩ := h.ex
  intro x hx
  simp only [List.mem_cons, List.mem_append] at hx
  rcases hx with rfl | hx | hx
  · exact lt_of_block h1
  · exact (h2.ge x hx).2
  · exact h9 x hx
theorem RK.kept {L : List Nat} {w w' : World} {c nb bb : Nat} {R : List Nat} {σ : DSt} (h : RK w c R nb bb σ) (k : Kept L w w') (hn : ∀ x ∈ R, x ∉ L) : RK w' c R nb bb σ := by
  obtain ⟨fsv, ts, fav, fl, h1, h2, h3, h4, h5, h6, h7, h8, h9, rfl⟩ := h.ex
  exact ⟨⟨fsv, ts, fav, fl, k.heap h1 (hn c (by simp)), h2.keptF k (fun x hx => hn x (by simp [hx])), h3, h4.keptZ k (fun x hx => hn x (by simp [hx])), h5, h6, h7, h8, fun x hx => Nat.lt_of_lt_of_le (h9 x hx) k.size, rfl⟩, h.opb, h.len, h.byt, h.secb, h.syl, h.dist⟩
theorem RK.old {w w' : World} {c nb bb : Nat} {R : List Nat} {σ : DSt} (h : RK w c R nb bb σ) (k : Kept [] w w') : RK w' c R nb bb σ := h.kept k (by simp)
theorem RK.more {w : World} {c nb bb : Nat} {R : List Nat} {σ : DSt} (h : RK w c R nb bb σ) {nb' bb' : Nat} (h1 : nb ≤ nb') (h2 : bb ≤ bb') : RK w c R nb' bb' σ := by
  obtain ⟨fsv, ts, fav, fl, g1, g2, g3, g4, g5, g6⟩ := h.ex
  exact ⟨⟨fsv, ts, fav, fl, g1, g2, g3, g4, Nat.le_trans g5 h1, g6⟩, ⟨h.opb.1, by have := h.opb.2; omega⟩, Nat.le_trans h.len h1, fun f hf => Nat.le_trans (h.byt f hf) h2, h.secb, h.syl, h.dist⟩
/-- Where the file of this name stands. -/
def fndA (A : List DF) (s : List UInt8) : Option Nat := A.findIdx? fun f => f.nm.data.toList == s
def fndI (A : List DF) (s : List UInt8) : Int := match fndA A s with | none => -1 | some i => (i : Int)
theorem fndA_isSome (A : List DF) (s : List UInt8) : (fndA A s).isSome = (findA A s).isSome := by
  unfold fndA findA
  rw [List.findIdx?_isSome, Bool.eq_iff_iff, List.find?_isSome, List.any_eq_true]
theorem fndA_get {A : List DF} {s : List UInt8} {i : Nat} (h : fndA A s = some i) : ∃ hi : i < A.length, A[i].nm.data.toList = s ∧ findA A s = some A[i] := by
  unfold fndA at h
  obtain ⟨hi, h1, h2⟩ := List.findIdx?_eq_some_iff_getElem.1 h
  refine ⟨hi, by simpa using h1, ?_⟩
  unfold findA
  rw [List.find?_eq_some_iff_getElem]
  exact ⟨h1, i, hi, rfl, fun j hj => by simpa using h2 j hj⟩
end Go.Proofs.Ytlopdlcepmmjdaa
namespace Go.Proofs.Ytlopdlcepmmjdaa
open Go.RowKit Go.BigFrame Go.Maps Go.Sort
set_option linter.unusedVariables false
set_option linter.unusedSimpArgs false

theorem results_cell {P : Program} {fn : Func} {p : Tmp} {ty : TypeId} (h : fn.results = #[.cell p ty]) (tmps : Array Value) (w : World) (g : Nat) (t : TypeId) (cs : Array Value) (fr : Nat × Nat) (d : TypeDesc)
    (hp : tmps.getD p undef = .pointer (some ⟨g, 0, none⟩)) (hg : w.heap[g]? = some (.cells cs t fr))
    (hu : P.underlying ty = some d) (hd : (match d with | .struct _ | .array _ _ => true | _ => false) = true) (hi : (P.info? ty).map (·.size) = some cs.size) :
    (results fn tmps).run P w = .ok (.agg cs) w := by
  have hp' : tmps[p]?.getD undef = .pointer (some ⟨g, 0, none⟩) := by simpa using hp
  simp [results, h, hp', asAddr, run_loadVar_row w g t ty cs fr d hg hu hd hi]
theorem results_cell_tmp {P : Program} {fn : Func} {p q : Tmp} {ty : TypeId} (h : fn.results = #[.cell p ty, .tmp q]) (tmps : Array Value) (w : World) (g : Nat) (t : TypeId) (cs : Array Value) (fr : Nat × Nat) (d : TypeDesc)
    (hp : tmps.getD p undef = .pointer (some ⟨g, 0, none⟩)) (hg : w.heap[g]? = some (.cells cs t fr))
    (hu : P.underlying ty = some d) (hd : (match d with | .struct _ | .array _ _ => true | _ => false) = true) (hi : (P.info? ty).map (·.size) = some cs.size) (v : Value) (hq : tmps.getD q undef = v) :
    (results fn tmps).run P w = .ok (.tuple #[.agg cs, v]) w := by
  have hp' : tmps[p]?.getD undef = .pointer (some ⟨g, 0, none⟩) := by simpa using hp
  have hq' : tmps[q]?.getD undef = v := by simpa using hq
  simp [results, h, hp', hq', asAddr, run_loadVar_row w g t ty cs fr d hg hu hd hi]
theorem rput4_heap {w : World} {g : Nat} {a b c d : Value} {t : TypeId} (h : w.heap[g]? = some (.cells #[a, b, c, d] t (0, 0))) (x y z u : Value) : ((((w.setCell ⟨g, 0, none⟩ x).setCell ⟨g, 1, none⟩ y).setCell ⟨g, 2, none⟩ z).setCell ⟨g, 3, none⟩ u).heap[g]? = some (.cells #[x, y, z, u] t (0, 0)) := by
  rw [heap_setCell_same _ g 3 _ t _ (heap_setCell_same _ g 2 _ t _ (heap_setCell_same _ g 1 _ t _ (heap_setCell_same w g 0 _ t _ h)))]; rfl
theorem rput4_kept {L : List Nat} {w0 w : World} (k : Kept L w0 w) (g : Nat) (hg : g ∈ L ∨ w0.heap.size ≤ g) (x y z u : Value) : Kept L w0 ((((w.setCell ⟨g, 0, none⟩ x).setCell ⟨g, 1, none⟩ y).setCell ⟨g, 2, none⟩ z).setCell ⟨g, 3, none⟩ u) := (((k.setCell hg x).setCell hg y).setCell hg z).setCell hg u
theorem rput3_heap {w : World} {g : Nat} {a b c : Value} {t : TypeId} (h : w.heap[g]? = some (.cells #[a, b, c] t (0, 0))) (x y z : Value) : (((w.setCell ⟨g, 0, none⟩ x).setCell ⟨g, 1, none⟩ y).setCell ⟨g, 2, none⟩ z).heap[g]? = some (.cells #[x, y, z] t (0, 0)) := by
  rw [heap_setCell_same _ g 2 _ t _ (heap_setCell_same _ g 1 _ t _ (heap_setCell_same w g 0 _ t _ h))]; rfl
theorem rput3_kept {L : List Nat} {w0 w : World} (k : Kept L w0 w) (g : Nat) (hg : g ∈ L ∨ w0.heap.size ≤ g) (x y z : Value) : Kept L w0 (((w.setCell ⟨g, 0, none⟩ x).setCell ⟨g, 1, none⟩ y).setCell ⟨g, 2, none⟩ z) := ((k.setCell hg x).setCell hg y).setCell hg z
theorem rput2_heap {w : World} {g : Nat} {a b : Value} {t : TypeId} (h : w.heap[g]? = some (.cells #[a, b] t (0, 0))) (x y : Value) : ((w.setCell ⟨g, 0, none⟩ x).setCell ⟨g, 1, none⟩ y).heap[g]? = some (.cells #[x, y] t (0, 0)) := by
  rw [heap_setCell_same _ g 1 _ t _ (heap_setCell_same w g 0 _ t _ h)]; rfl
theorem rput2_kept {L : List Nat} {w0 w : World} (k : Kept L w0 w) (g : Nat) (hg : g ∈ L ∨ w0.heap.size ≤ g) (x y : Value) : Kept L w0 ((w.setCell ⟨g, 0, none⟩ x).setCell ⟨g, 1, none⟩ y) := (k.setCell hg x).setCell hg y
theorem Try.size_dfile : (Try.prog.info? 54).map (·.size) = some 4 := by kernel_rfl
theorem Try.size_keep : (Try.prog.info? 72).map (·.size) = some 3 := by kernel_rfl
theorem Try.size_fault : (Try.prog.info? 104).map (·.size) = some 2 := by kernel_rfl

set_option maxRecDepth 100000 in
set_option maxHeartbeats 1000000 in
theorem joinO_any (u v : Value) (p q : List Nat) (w : World) (hu : Rd w u p) (hv : Rd w v q) (hl : p.length + q.length ≤ 140737488355328) :
    Calls Try.prog 86 #[u, v] w fun e w' => ∃ lv, e = .returned lv ∧ w'.ownsRow w.heap.size 5 1 lv (p ++ q).length ((p ++ q).map u8) ∧ Kept [] w w' := by
  have HU := hide hu
  have HV := hide hv
  obtain ⟨a1, n1, c1, rfl, hn1, _⟩ := hu
  obtain ⟨a2, n2, c2, rfl, hn2, _⟩ := hv
  subst hn1
  subst hn2
  obtain ⟨i0, hi, hz0, hz1, hz2⟩ := info_parts Try.info5
  have hmk : ∀ W : World, (Instr.makeSlice 36 (.int .i64 0) (.int .i64 ((p.length : Int) + q.length))).run Try.prog W =
      .ok (.slice (some ⟨W.heap.size, 0, none⟩) 0 (p.length + q.length)) (W.alloc (.cells (zeros (p.length + q.length)).toArray 5)) := fun W => by
    have h := run_make (P := Try.prog) W 36 5 i0 (.int .u8 0) Try.underlying36 hi hz0 .i64 .i64 0 ((p.length : Int) + q.length) (by omega) (by omega) (by rw [hz2]; omega) (by omega)
    have e : ((p.length : Int) + q.length).toNat = p.length + q.length := by omega
    rw [e] at h
    simpa [hz1, Value.cells, madeZeros] using h
  clear hi hz0 hz1 hz2
  have HO := hide (World.ownsRow_made (base := w.heap.size) (e := 5) (size := 1) w (zeros (p.length + q.length)).toArray (p.length + q.length) (Nat.le_refl _) (by unfold maxLen; omega) (by simp [zeros]))
  have HU1 := hide ((unhide HU).old ((Kept.refl [] w).alloc (.cells (zeros (p.length + q.length)).toArray 5)) (by simp))
  go_enter Try.func86, Try.ntmps86
  go_wp2_with (at_builtin; first
    | (refine wpList_appendAll rfl (.tmp 12) (.tmp 13) rfl rfl _ w.heap.size (.slice (some ⟨w.heap.size, 0, none⟩) 0 (p.length + q.length)) [] p a1 p.length c1 (by exact unhide HO) (by exact unhide HU1) (by simp; omega) (by simp) rfl rfl ?_; intro ao1 cap1 w1 HO1 HG1 HA1; simp only [List.nil_append, List.length_nil, Nat.zero_add] at HO1 HA1; have HK1 := hide (((Kept.refl [] w).alloc _).grown (unhide HG1) (by intro k hk; right; simp [Value.ownBlock] at hk; omega)); have HA1' := hide (show ∀ g, (Value.slice ao1 p.length cap1).ownBlock = some g → w.heap.size ≤ g from fun g hg => ((unhide HO1).lt g hg).1); clear HG1 HA1)
    | (refine wpList_appendAll rfl (.tmp 15) (.tmp 16) rfl rfl _ w.heap.size (.slice ao1 p.length cap1) p q a2 q.length c2 (by exact unhide HO1) (by exact (unhide HV).old (unhide HK1) (by simp)) hl (by have := (unhide HK1).size; omega) (by simp [Act.eval]) (by simp [Act.eval]) ?_; intro ao2 cap2 w2 HO2 HG2 HA2; have HK2 := hide ((unhide HK1).grown (unhide HG2) (by intro k hk; right; exact unhide HA1' k hk)); clear HG2 HA2))
  go_ret
  refine ⟨_, rfl, unhide HO2, unhide HK2⟩


set_option maxRecDepth 100000 in
set_option maxHeartbeats 1000000 in
theorem rfind_any (c nb bb : Nat) (R : List Nat) (σ : DSt) (s : ByteArray) (w : World) (h : RK w c R nb bb σ) (hn : nb ≤ 1000000000) :
    Calls Try.prog 70 #[.pointer (some ⟨c, 0, none⟩), .string s] w fun e w' => e = .returned (.int .i64 (fndI σ.A s.data.toList)) ∧ w' = w := by
  obtain ⟨fsv, ts, fav, fl, h1, h2, h3, h4, h5, h6, h7⟩ := h.ex
  have hlen := h.len
  obtain ⟨a3, c3, hv3, hg3⟩ := h2.shapeL
  subst hv3
  have hl3 : ts.length = σ.A.length := by have := congrArg List.length h3; simpa using this
  have q1 := cell_of_row _ _ 1 _ _ _ h1
  simp at q1
  generalize σ.A = A at h3 hl3 hlen ⊢
  rw [hl3] at hg3 q1
  have HR := hide h2.rd
  rw [hl3] at HR
  have HG := hide hg3
  have HL := hide hl3
  have HT := hide h3
  clear h1 h2 h3 h4 h5 h6 h7 hl3 hg3 h
  go_enter Try.func70, Try.ntmps70
  go_wp2_with fail
  go_loopw [11] (fun t11 wr => ∃ k : Nat, k ≤ A.length ∧ t11 = .int .i64 k ∧ Hid (∀ j (hj : j < A.length), j < k → A[j].nm.data.toList ≠ s.data.toList) ∧ wr = w) (fun t _ => A.length - (intOf t).toNat)
  case atStart => exact ⟨0, Nat.zero_le _, rfl, hide (fun j hj h => by omega), rfl⟩
  case round =>
    obtain ⟨k, hk, rfl, HA, rfl⟩ := hrel
    by_cases hlt : k < A.length
    · have hlt' : (k : Int) < A.length := by omega
      have l3 : k < ts.length := by rw [unhide HL]; exact hlt
      obtain ⟨g3, rfl⟩ := unhide HG (by omega)
      obtain ⟨p0, _, _, _⟩ := rdFl_at (unhide HR) l3
      have x3 := fst_at (unhide HT) l3 hlt
      rw [x3] at p0
      clear x3
      by_cases he : A[k].nm.data.toList = s.data.toList
      · have hb : (A[k].nm.toList == s.toList) = true := by rw [ba_toListS, ba_toListS, he]; simp
        have HF := hide (by
          unfold fndI
          rw [show fndA A s.data.toList = some k from List.findIdx?_eq_some_iff_getElem.2 ⟨hlt, by simp [he], fun j hj => by simpa using unhide HA j (by omega) hj⟩] : fndI A s.data.toList = (k : Int))
        clear he HA
        generalize A[k].nm = nm at p0 hb
        go_wp2_with fail
        go_ret
        exact ⟨by rw [unhide HF]; rfl, rfl⟩
      · have hb : (A[k].nm.toList == s.toList) = false := by rw [ba_toListS, ba_toListS]; exact beq_eq_false_iff_ne.2 he
        have HN := hide (fun j hj h => by
          by_cases hjk : j < k
          · exact unhide HA j hj hjk
          · have : j = k := by omega
            subst this
            exact he : ∀ j (hj : j < A.length), j < k + 1 → A[j].nm.data.toList ≠ s.data.toList)
        clear he HA
        generalize A[k].nm = nm at p0 hb
        go_wp2_with fail
        refine ⟨⟨k + 1, by omega, by simp, HN, trivial⟩, ?_⟩
        simp [intOf]; omega
    · have hlt' : ¬ (k : Int) < A.length := by omega
      have HF := hide (by
        unfold fndI
        rw [show fndA A s.data.toList = none from List.findIdx?_eq_none_iff.2 (fun x hx => by
          obtain ⟨j, hj, rfl⟩ := List.getElem_of_mem hx
          have := unhide HA j hj (by omega)
          simpa using this)] : fndI A s.data.toList = -1)
      clear HA
      go_wp2_with fail
      go_ret
      exact ⟨by rw [unhide HF]; rfl, rfl⟩

set_option maxRecDepth 100000 in
set_option maxHeartbeats 1000000 in
theorem rtwin_any (X : DF) (xv : Value) (w : World) (hx : Rd w xv X.bs) :
    Calls Try.prog 39 #[.agg #[.string X.nm, xv, .int .i64 (X.sy : Int), .bool X.nd]] w fun e w' => ∃ g, e = .returned (.agg #[.string X.nm, .slice (some ⟨g, 0, none⟩) X.bs.length X.bs.length, .int .i64 (X.sy : Int), .bool X.nd]) ∧ w'.ownsRow w.heap.size 5 1 (.slice (some ⟨g, 0, none⟩) X.bs.length X.bs.length) X.bs.length (X.bs.map u8) ∧ Kept [] w w' := by
  obtain ⟨xa, xl, xc, hxv⟩ : ∃ a l c, xv = .slice a l c := by obtain ⟨a, l, c, h1, _⟩ := hx; exact ⟨a, l, c, h1⟩
  subst hxv
  have hlen : X.bs.length ≤ 140737488355328 := by obtain ⟨a, b, c, h9, h10, h11, h12, _⟩ := hx; omega
  have kA := (Kept.refl [] w).alloc (.cells #[.string X.nm, .slice xa xl xc, .int .i64 (X.sy : Int), .bool X.nd] 54 (0, 0))
  have gA := heap_alloc_new w (.cells #[.string X.nm, .slice xa xl xc, .int .i64 (X.sy : Int), .bool X.nd] 54 (0, 0))
  obtain ⟨WA, hWA⟩ : ∃ W, w.alloc (.cells #[.string X.nm, .slice xa xl xc, .int .i64 (X.sy : Int), .bool X.nd] 54 (0, 0)) = W := ⟨_, rfl⟩
  rw [hWA] at kA gA
  have HWA := hide hWA
  have kB := (Kept.refl [] WA).alloc (.cells #[.string ⟨#[]⟩, .slice none 0 0, .int .i64 0, .bool false] 54 (0, 0))
  have gB := heap_alloc_new WA (.cells #[.string ⟨#[]⟩, .slice none 0 0, .int .i64 0, .bool false] 54 (0, 0))
  obtain ⟨WB, hWB⟩ : ∃ W, WA.alloc (.cells #[.string ⟨#[]⟩, .slice none 0 0, .int .i64 0, .bool false] 54 (0, 0)) = W := ⟨_, rfl⟩
  rw [hWB] at kB gB
  have HWB := hide hWB
  have HK := hide (kA.trans kB (by simp))
  have HGA := hide (kB.heap gA (by simp))
  have HGB := hide gB
  have HSB := hide (lt_of_block gB)
  have HSA := hide (lt_of_block gA)
  have a1 := cell_of_row _ _ 1 _ _ _ (unhide HGA)
  simp at a1
  have HX := hide (hx.old (unhide HK) (by simp))
  have HLN := hide hlen
  clear hWA hWB kA kB gA gB hx hlen
  go_enter Try.func39, Try.ntmps39
  go_wp2_with (first | (rw [unhide HWA]) | (rw [unhide HWB]) | fail)
  refine Calls.mono (twin_any (.slice xa xl xc) X.bs WB (unhide HX)) ?_
  rintro e w2 ⟨rfl, k2, hh2⟩
  have HG2 := hide (k2.heap (unhide HGA) (by simp))
  have HB2 := hide (k2.heap (unhide HGB) (by simp))
  have HH2 := hide hh2
  have HK2 := hide ((unhide HK).trans k2 (by simp))
  clear k2 hh2 a1
  have q1 := cell_of_row _ _ 1 _ _ _ (unhide HG2)
  simp at q1
  have z1 := frozen_of_row _ _ 1 _ _ (unhide HG2)
  go_upto_region 2 with fail
  have HG3 := hide (heap_setCell_same w2 _ 1 _ _ (.slice (some ⟨WB.heap.size, 0, none⟩) X.bs.length X.bs.length) (unhide HG2))
  have HK3 := hide ((unhide HK2).setCell (p := ⟨w.heap.size, 1, none⟩) (.inr (Nat.le_refl _)) (.slice (some ⟨WB.heap.size, 0, none⟩) X.bs.length X.bs.length))
  have kz := (Kept.refl [w.heap.size] w2).setCell (p := ⟨w.heap.size, 1, none⟩) (.inl (by simp)) (.slice (some ⟨WB.heap.size, 0, none⟩) X.bs.length X.bs.length)
  have HH3 := hide (kz.heap (unhide HH2) (by have := unhide HSA; have := unhide HSB; simp; omega))
  have HB3 := hide (kz.heap (unhide HB2) (by have := unhide HSA; simp; omega))
  obtain ⟨W3, hW3⟩ : ∃ W, w2.setCell ⟨w.heap.size, 1, none⟩ (.slice (some ⟨WB.heap.size, 0, none⟩) X.bs.length X.bs.length) = W := ⟨_, rfl⟩
  rw [hW3] at HG3 HK3 HH3 HB3 ⊢
  clear hW3 q1 z1 kz
  have r0 := cell_of_row _ _ 0 _ _ _ (unhide HG3)
  have r1 := cell_of_row _ _ 1 _ _ _ (unhide HG3)
  have r2 := cell_of_row _ _ 2 _ _ _ (unhide HG3)
  have r3 := cell_of_row _ _ 3 _ _ _ (unhide HG3)
  simp at r0 r1 r2 r3
  have b0 := cell_of_row _ _ 0 _ _ _ (unhide HB3)
  have b1 := cell_of_row _ _ 1 _ _ _ (unhide HB3)
  have b2 := cell_of_row _ _ 2 _ _ _ (unhide HB3)
  have b3 := cell_of_row _ _ 3 _ _ _ (unhide HB3)
  simp at b0 b1 b2 b3
  have f0 := frozen_of_row _ _ 0 _ _ (unhide HB3)
  have f1 := frozen_of_row _ _ 1 _ _ (unhide HB3)
  have f2 := frozen_of_row _ _ 2 _ _ (unhide HB3)
  have f3 := frozen_of_row _ _ 3 _ _ (unhide HB3)
  go_wp2_with fail
  have kf := rput4_kept (Kept.refl [WA.heap.size] W3) WA.heap.size (.inl (by simp)) (.string X.nm) (.slice (some ⟨WB.heap.size, 0, none⟩) X.bs.length X.bs.length) (.int .i64 (X.sy : Int)) (.bool X.nd)
  refine bodyPost_ret (v := .agg #[.string X.nm, .slice (some ⟨WB.heap.size, 0, none⟩) X.bs.length X.bs.length, .int .i64 (X.sy : Int), .bool X.nd]) ?_ rfl ⟨WB.heap.size, rfl, ?_, ?_⟩
  · exact results_cell rfl _ _ WA.heap.size _ _ (0, 0) _ rfl (rput4_heap (unhide HB3) _ _ _ _) Try.underlying54 rfl Try.size_dfile
  · exact owns_fresh (kf.heap (unhide HH3) (by have := unhide HSB; simp; omega)) (unhide HLN) (unhide HK).size
  · exact rput4_kept (unhide HK3) WA.heap.size (.inr (by have := unhide HSA; omega)) _ _ _ _
end Go.Proofs.Ytlopdlcepmmjdaa
namespace Go.Proofs.Ytlopdlcepmmjdaa
open Go.RowKit
set_option linter.unusedVariables false
set_option linter.unusedSimpArgs false

/-- The string that bytes make. -/
def strOf (p : List Nat) : ByteArray := ⟨(p.map UInt8.ofNat).toArray⟩

theorem ba_loop (s : ByteArray) : ∀ n i r, s.size - i = n → ByteArray.toList.loop s i r = r.reverse ++ s.data.toList.drop i := by
  intro n
  induction n with
  | zero =>
    intro i r h
    rw [ByteArray.toList.loop]
    have h1 : s.size = s.data.toList.length := (Array.length_toList).symm
    rw [if_neg (by omega), List.drop_eq_nil_of_le (by omega), List.append_nil]
  | succ n ih =>
    intro i r h
    rw [ByteArray.toList.loop]
    have h1 : s.size = s.data.toList.length := (Array.length_toList).symm
    have h2 : i < s.data.toList.length := by omega
    rw [if_pos (by omega), ih (i + 1) _ (by omega), List.drop_eq_getElem_cons h2]
    have h3 : s.get! i = s.data.toList[i] := by
      have h4 : i < s.data.size := by simpa using h2
      rw [Array.getElem_toList]
      exact getElem!_pos s.data i h4
    simp [h3]
theorem ba_toList (s : ByteArray) : s.toList = s.data.toList := by
  unfold ByteArray.toList
  rw [ba_loop s _ 0 [] rfl]
  simp

theorem strOf_inj {p q : List Nat} (hp : ∀ x ∈ p, x < 256) (hq : ∀ x ∈ q, x < 256) (h : strOf p = strOf q) : p = q := by
  have h1 : p.map UInt8.ofNat = q.map UInt8.ofNat := by
    have := congrArg (fun b => b.data.toList) h
    simpa [strOf] using this
  have h2 := congrArg (List.map UInt8.toNat) h1
  simp only [List.map_map] at h2
  have e : ∀ l : List Nat, (∀ x ∈ l, x < 256) → l.map (UInt8.toNat ∘ UInt8.ofNat) = l := by
    intro l hl
    conv => rhs; rw [← List.map_id l]
    apply List.map_congr_left
    intro x hx
    have := hl x hx
    simp [UInt8.toNat_ofNat]; omega
  rw [e p hp, e q hq] at h2
  exact h2

theorem conv_any (v : Value) (p : List Nat) (w : World) (h : Rd w v p) (hu5 : Try.prog.underlying 5 = some (.int .u8)) (hu9 : Try.prog.underlying 9 = some .string) :
    (convert 36 9 v).run Try.prog w = .ok (.string (strOf p)) w := by
  obtain ⟨ao, len, cap, rfl, rfl, h2, h3, h4, h5, h6⟩ := h
  have hl : p.length = (p.map UInt8.ofNat).length := by simp
  cases ao with
  | none =>
    have hz := h4 rfl
    have hp0 : p = [] := List.eq_nil_of_length_eq_zero (by omega)
    subst hp0
    rw [run_convert_bytes_string w 36 9 5 none _ cap Try.underlying36 hu5 hu9]
    simp [Conv.bytesToString, strOf]
    rfl
  | some a =>
    rw [hl]
    refine run_convert_bytes_back w 36 9 5 a cap (p.map UInt8.ofNat) Try.underlying36 hu5 hu9 (fun j hj => ?_)
    simp at hj
    obtain ⟨b, off, he, hc⟩ := h6 (by omega)
    cases he
    have := hc j hj
    rw [Addr.add_mid, this]
    have hb := h5 (p[j]) (List.getElem_mem hj)
    simp [u8, List.getD_eq_getElem?_getD, List.getElem?_eq_getElem hj, UInt8.toNat_ofNat]
    omega

set_option maxRecDepth 100000 in
set_option maxHeartbeats 2000000 in
theorem tsame_any (u v : Value) (p q : List Nat) (w : World) (hu : Rd w u p) (hv : Rd w v q) :
    Calls Try.prog 23 #[u, v] w fun e w' => e = .returned (.bool (decide (p = q))) ∧ w' = w := by
  have hu5 : Try.prog.underlying 5 = some (.int .u8) := by kernel_rfl
  have hu9 : Try.prog.underlying 9 = some .string := by kernel_rfl
  have c1 := conv_any u p w hu hu5 hu9
  have c2 := conv_any v q w hv hu5 hu9
  have hd : ((strOf p).toList == (strOf q).toList) = decide (p = q) := by
    rw [ba_toList, ba_toList]
    by_cases h : p = q
    · subst h; simp
    · have h2 : ¬ (strOf p).data.toList = (strOf q).data.toList := fun e => h (strOf_inj hu.byte hv.byte (by
        have e2 := congrArg List.toArray e
        simp only [Array.toArray_toList] at e2
        cases hp : strOf p; cases hq : strOf q
        rw [hp, hq] at e2
        simp only at e2
        rw [e2]))
      rw [decide_eq_false h]
      exact beq_eq_false_iff_ne.2 h2
  have Hd := hide hd
  generalize strOf p = s1 at *
  generalize strOf q = s2 at *
  clear hu hv hu5 hu9 hd
  go_enter Try.func23, Try.ntmps23
  go_wp2
  go_ret
  exact ⟨by rw [unhide Hd]; rfl, rfl⟩
end Go.Proofs.Ytlopdlcepmmjdaa
namespace Go.Proofs.Ytlopdlcepmmjdaa
open Go.RowKit Go.BigFrame Go.Maps Go.Sort
set_option linter.unusedVariables false
set_option linter.unusedSimpArgs false
set_option maxRecDepth 100000 in
set_option maxHeartbeats 400000 in
theorem file_any (n : Nat) (hn : n < 256) (w : World) :
    Calls Try.prog 61 #[.int .u8 n] w fun e w' => ∃ s, e = .returned (.string s) ∧ s.size ≤ 2 ∧ Kept [] w w' := by
  have hu5 : Try.prog.underlying 5 = some (.int .u8) := by kernel_rfl
  have hu9 : Try.prog.underlying 9 = some .string := by kernel_rfl
  have hk := (Kept.refl [] w).alloc (.cells #[.int .u8 102, .int .u8 (97 + (n : Int) % 5)] 5 (0, 0))
  have hg := heap_alloc_new w (.cells #[.int .u8 102, .int .u8 (97 + (n : Int) % 5)] 5 (0, 0))
  obtain ⟨W, hW⟩ : ∃ W, w.alloc (.cells #[.int .u8 102, .int .u8 (97 + (n : Int) % 5)] 5 (0, 0)) = W := ⟨_, rfl⟩
  rw [hW] at hk hg
  have hr : Rd W (.slice (some ⟨w.heap.size, 0, none⟩) 2 2) [102, 97 + n % 5] := by
    refine ⟨_, _, _, rfl, rfl, by simp, by simp, by simp, by intro x hx; simp at hx; omega, fun _ => ⟨w.heap.size, 0, rfl, ?_⟩⟩
    intro j hj
    have hj2 : j = 0 ∨ j = 1 := by have h9 : j < 2 := hj; omega
    rcases hj2 with rfl | rfl
    · have := cell_of_row _ _ 0 _ _ _ hg
      simpa [u8] using this
    · have := cell_of_row _ _ 1 _ _ _ hg
      simpa [u8] using this
  have hc := conv_any _ _ W hr hu5 hu9
  have hs : (strOf [102, 97 + n % 5]).size ≤ 2 := by simp [strOf, ByteArray.size]
  generalize strOf [102, 97 + n % 5] = s at hc hs
  have HW := hide hW
  have HK := hide hk
  clear hr hg hW hk hu5 hu9
  go_enter Try.func61, Try.ntmps61
  go_wp2_with (first | (rw [unhide HW]) | fail)
  go_ret
  exact ⟨s, rfl, hs, unhide HK⟩
end Go.Proofs.Ytlopdlcepmmjdaa
/-
  Laws for drawn regions, by genreg.py. No program.
-/
namespace Go.Proofs.Ytlopdlcepmmjdaa
open Go Go.RowKit Go.BigFrame
set_option linter.unusedVariables false
set_option linter.unusedSimpArgs false
section
variable {P : Program} {Q : Exit → Act → World → Prop}
theorem wp_ac7 {id : Nat} {o0 o1 o2 o3 o4 o5 o6 : Oper} {a : Act} {w : World} (hm : P.follows .mixedOrders = true) (hs : Region.noSelect #[o0, o1, o2, o3, o4, o5, o6] = true)
    (f0 : Region.free .any #[o0, o1, o2, o3, o4, o5, o6] #[false, false, false, false, false, false, false] 0 = true) (r0 : (Region.ready .any #[o0, o1, o2, o3, o4, o5, o6] #[false, false, false, false, false, false, false]).contains 0 = true)
    (f1 : Region.free .any #[o0, o1, o2, o3, o4, o5, o6] #[true, false, false, false, false, false, false] 1 = true) (r1 : (Region.ready .any #[o0, o1, o2, o3, o4, o5, o6] #[true, false, false, false, false, false, false]).contains 1 = true)
    (f2 : Region.free .any #[o0, o1, o2, o3, o4, o5, o6] #[true, true, false, false, false, false, false] 2 = true) (r2 : (Region.ready .any #[o0, o1, o2, o3, o4, o5, o6] #[true, true, false, false, false, false, false]).contains 2 = true)
    (f4 : Region.free .any #[o0, o1, o2, o3, o4, o5, o6] #[true, true, true, false, false, false, false] 4 = true) (r4 : (Region.ready .any #[o0, o1, o2, o3, o4, o5, o6] #[true, true, true, false, false, false, false]).contains 4 = true)
    (f5 : Region.free .any #[o0, o1, o2, o3, o4, o5, o6] #[true, true, true, false, true, false, false] 5 = true) (r5 : (Region.ready .any #[o0, o1, o2, o3, o4, o5, o6] #[true, true, true, false, true, false, false]).contains 5 = true)
    (q_ : Region.ready .any #[o0, o1, o2, o3, o4, o5, o6] #[true, true, true, false, true, true, false] = [3])
    (q3_ : Region.ready .any #[o0, o1, o2, o3, o4, o5, o6] #[true, true, true, true, true, true, false] = [6])
    (q3_6_ : Region.ready .any #[o0, o1, o2, o3, o4, o5, o6] #[true, true, true, true, true, true, true] = [])
    (g3 : o3.guard = none)    (g6 : o6.guard = none)
    (v0 v1 v2 v4 v5 : Value) (A0 A1 A2 A3 A4 : Act)
    (S : World → Prop)
    (I_ : World → Prop)
    (I3_ : Value → World → Prop)
    (I3_6_ : Value → Value → World → Prop)
    (p0 : a.put o0.dst v0 = A0) (hy0 : YieldsIf P #[o0, o1, o2, o3, o4, o5, o6] S o0 v0 a)
    (p1 : A0.put o1.dst v1 = A1) (hy1 : YieldsIf P #[o0, o1, o2, o3, o4, o5, o6] S o1 v1 A0)
    (p2 : A1.put o2.dst v2 = A2) (hy2 : YieldsIf P #[o0, o1, o2, o3, o4, o5, o6] S o2 v2 A1)
    (p4 : A2.put o4.dst v4 = A3) (hy4 : YieldsIf P #[o0, o1, o2, o3, o4, o5, o6] S o4 v4 A2)
    (p5 : A3.put o5.dst v5 = A4) (hy5 : YieldsIf P #[o0, o1, o2, o3, o4, o5, o6] S o5 v5 A3)
    (i0 : I_ w.drew)
    (hIS : (∀ w', I_  w' → S w') ∧ (∀ (u3 : Value) w', I3_ u3 w' → S w') ∧ (∀ (u3 u6 : Value) w', I3_6_ u3 u6 w' → S w'))
    (s_3 : ∀ w', I_  w' → ∀ K : Act → World → Prop, (∀ (u3 : Value) w2, I3_ u3 w2 → K (A4.put o3.dst u3) w2) → o3.wp P A4 w' K (NoPanic Q))
    (s3_6 : ∀ (u3 : Value) w', I3_ u3 w' → ∀ K : Act → World → Prop, (∀ (u6 : Value) w2, I3_6_ u3 u6 w2 → K ((A4.put o3.dst u3).put o6.dst u6) w2) → o6.wp P (A4.put o3.dst u3) w' K (NoPanic Q))
    (h : ∀ (u3 u6 : Value) w', I3_6_ u3 u6 w' → Q .normal ((A4.put o3.dst u3).put o6.dst u6) w') :
    (Code.region id #[o0, o1, o2, o3, o4, o5, o6] true).wp P Q a w := by
  subst p0 p1 p2 p4 p5
  obtain ⟨z_, z3_, z3_6_⟩ := hIS
  refine wp_region_noPanic ?_
  refine wp_region_held_drew (S := S) hm (z_ _ i0) (fun hH => ?_)
  show wpAnyH P .any #[o0, o1, o2, o3, o4, o5, o6] (NoPanic Q) S 7 #[false, false, false, false, false, false, false] a w.drew
  refine wpAnyH_take (i := 0) (oi := o0) rfl hs f0 r0 (fun _ _ _ h => h) hy0 hH ?_
  refine wpAnyH_take (i := 1) (oi := o1) rfl hs f1 r1 (fun _ _ _ h => h) hy1 hH ?_
  refine wpAnyH_take (i := 2) (oi := o2) rfl hs f2 r2 (fun _ _ _ h => h) hy2 hH ?_
  refine wpAnyH_take (i := 4) (oi := o4) rfl hs f4 r4 (fun _ _ _ h => h) hy4 hH ?_
  refine wpAnyH_take (i := 5) (oi := o5) rfl hs f5 r5 (fun _ _ _ h => h) hy5 hH ?_
  generalize (((((a.put o0.dst v0).put o1.dst v1).put o2.dst v2).put o4.dst v4).put o5.dst v5) = B at *
  have wa3 : ∀ y, Region.wanted o3 y = true := fun y => by unfold Region.wanted; rw [g3]
  have wa6 : ∀ y, Region.wanted o6 y = true := fun y => by unfold Region.wanted; rw [g6]
  have t3_6_ : ∀ (u3 u6 : Value) w', I3_6_ u3 u6 w' → wpAnyH P .any #[o0, o1, o2, o3, o4, o5, o6] (NoPanic Q) S 0 #[true, true, true, true, true, true, true] ((B.put o3.dst u3).put o6.dst u6) w' := by
    intro u3 u6 w0 i0
    exact ⟨q3_6_, NoPanic.normal (h u3 u6 w0 i0)⟩
  have t3_ : ∀ (u3 : Value) w', I3_ u3 w' → wpAnyH P .any #[o0, o1, o2, o3, o4, o5, o6] (NoPanic Q) S 1 #[true, true, true, true, true, true, false] (B.put o3.dst u3) w' := by
    intro u3 w0 i0
    refine wpAnyH_ready (rs := [6]) q3_ (by simp) (AllReadyH.cons (o := o6) rfl (fun K hK => ?_) AllReadyH.nil)
    · rw [if_pos (wa6 _)]
      refine s3_6 u3 w0 i0 K (fun u6 w1 i1 => hK.out _ _ (z3_6_ u3 u6 w1 i1) (fun _ => ?_))
      clear hK
      exact t3_6_ u3 u6 w1 i1
  have t_ : ∀ w', I_  w' → wpAnyH P .any #[o0, o1, o2, o3, o4, o5, o6] (NoPanic Q) S 2 #[true, true, true, false, true, true, false] B w' := by
    intro w0 i0
    refine wpAnyH_ready (rs := [3]) q_ (by simp) (AllReadyH.cons (o := o3) rfl (fun K hK => ?_) AllReadyH.nil)
    · rw [if_pos (wa3 _)]
      refine s_3  w0 i0 K (fun u3 w1 i1 => hK.out _ _ (z3_ u3 w1 i1) (fun _ => ?_))
      clear hK
      exact t3_ u3 w1 i1
  exact t_ w.drew i0

end
end Go.Proofs.Ytlopdlcepmmjdaa
namespace Go.Proofs.Ytlopdlcepmmjdaa
open Go.RowKit Go.BigFrame Go.Maps Go.Sort
set_option linter.unusedVariables false
set_option linter.unusedSimpArgs false
theorem Ev.more {w w' : World} {B B' : List Nat} (h : Ev w w' B B') {W : World} (k : Kept [] w' W) : Ev w W B B' := ⟨h.1.trans k (by simp), h.2⟩
theorem st_sec (σ : DSt) (s : ByteArray) (p : List Nat) : (stCreate σ s).2.sec = σ.sec ∧ (stAppend σ s p).2.sec = σ.sec ∧ (stSync σ s).2.sec = σ.sec ∧ (stNames σ).2.sec = σ.sec := by
  refine ⟨?_, ?_, ?_, ?_⟩
  · unfold stCreate; split <;> rfl
  · unfold stAppend; (repeat' split) <;> rfl
  · unfold stSync; (repeat' split) <;> rfl
  · unfold stNames; split <;> rfl

set_option maxRecDepth 100000 in
set_option maxHeartbeats 2000000 in
theorem acts_any (d nb bb : Nat) (B : List Nat) (σ : DSt) (kd F : Nat) (pv : Value) (ps : List Nat) (w : World) (h : DK w d B nb bb σ) (hk : kd < 256) (hF : F < 256) (hp : Rd w pv ps) (hpd : ∀ x ∈ zblk pv ps, x ∉ B) (hn : nb ≤ 1000000000) (hb : bb + ps.length ≤ 140737488350000) :
    Calls Try.prog 25 #[.pointer (some ⟨d, 0, none⟩), .agg #[.int .u8 kd, .int .u8 F, pv]] w fun e w' => e = .returned (.tuple #[]) ∧ ∃ B' σ', DK w' d B' (nb + 1) (bb + ps.length) σ' ∧ σ'.sec = σ.sec ∧ Ev w w' B B' := by
  obtain ⟨pa, pl, pc, hpv⟩ : ∃ a l c, pv = .slice a l c := by obtain ⟨a, l, c, h1, _⟩ := hp; exact ⟨a, l, c, h1⟩
  subst hpv
  have hk0 := (Kept.refl [] w).alloc (.cells #[.int .u8 kd, .int .u8 F, .slice pa pl pc] 65 (0, 0))
  have hg := heap_alloc_new w (.cells #[.int .u8 kd, .int .u8 F, .slice pa pl pc] 65 (0, 0))
  obtain ⟨W, hW⟩ : ∃ W, w.alloc (.cells #[.int .u8 kd, .int .u8 F, .slice pa pl pc] 65 (0, 0)) = W := ⟨_, rfl⟩
  rw [hW] at hk0 hg
  have HW := hide hW
  have HK := hide hk0
  have HG := hide hg
  have c0 := cell_of_row _ _ 0 _ _ _ hg
  have c1 := cell_of_row _ _ 1 _ _ _ hg
  have c2 := cell_of_row _ _ 2 _ _ _ hg
  simp at c0 c1 c2
  clear hW hk0 hg
  by_cases h0 : kd = 0
  · have g0 : ((kd : Int) == 0) = true := by simp; omega
    clear h0
    go_enter Try.func25, Try.ntmps25
    go_wp2_with (first | (rw [unhide HW]) | fail)
    refine Calls.mono (file_any F hF _) ?_
    rintro e w1 ⟨s, rfl, hs, k1⟩
    have HS := hide hs
    have HK1 := hide ((unhide HK).trans k1 (by simp))
    clear hs k1
    go_wp2_with fail
    refine Calls.mono (create_D d nb bb B σ s _ (h.old (unhide HK1)) (by have := unhide HS; omega) hn) ?_
    rintro e w2 ⟨B', rfl, h9, ev⟩
    have HD := hide h9
    have HE := hide (Ev.pre (unhide HK1) ev)
    clear h9 ev
    go_wp2_with fail
    refine bodyPost_end (v := .tuple #[]) (results_none rfl _ _ _) rfl ⟨rfl, B', _, (unhide HD).more (by omega) (by omega), (st_sec σ s ps).1, unhide HE⟩
  have g0 : ((kd : Int) == 0) = false := by simp; omega
  by_cases h1 : kd = 1
  · have g1 : ((kd : Int) == 1) = true := by simp; omega
    clear h1
    go_enter Try.func25, Try.ntmps25
    go_upto_region 6 with (first | (rw [unhide HW]) | fail)
    refine wp_ac7 (by kernel_rfl) (by kernel_rfl) (by kernel_rfl) (by kernel_rfl) (by kernel_rfl) (by kernel_rfl) (by kernel_rfl) (by kernel_rfl) (by kernel_rfl) (by kernel_rfl) (by kernel_rfl) (by kernel_rfl) (by kernel_rfl) (by kernel_rfl) (by kernel_rfl) rfl rfl
      (.pointer (some ⟨d, 0, none⟩)) (.pointer (some ⟨w.heap.size, 1, none⟩)) (.int .u8 F) (.pointer (some ⟨w.heap.size, 2, none⟩)) (.slice pa pl pc) _ _ _ _ _
      (fun w' => w'.heap[w.heap.size]? = some (.cells #[.int .u8 kd, .int .u8 F, .slice pa pl pc] 65 (0, 0)))
      (fun w' => Kept [] W w')
      (fun u3 w' => (∃ s : ByteArray, u3 = .string s ∧ s.size ≤ 2) ∧ Kept [] W w')
      (fun u3 u6 w' => (∃ B' σ', DK w' d B' (nb + 1) (bb + ps.length) σ' ∧ σ'.sec = σ.sec ∧ Ev w w' B B') ∧ w'.heap[w.heap.size]? = some (.cells #[.int .u8 kd, .int .u8 F, .slice pa pl pc] 65 (0, 0)))
      (by simp only [Act.put, List.setIfInBounds_toArray, List.set_cons_zero, List.set_cons_succ]; rfl) (by exact Or.inl ⟨by rfl, fun W' hW' => by go_simp⟩)
      (by simp only [Act.put, List.setIfInBounds_toArray, List.set_cons_zero, List.set_cons_succ]; rfl) (by exact Or.inl ⟨by rfl, fun W' hW' => by go_simp⟩)
      (by simp only [Act.put, List.setIfInBounds_toArray, List.set_cons_zero, List.set_cons_succ]; rfl) (by exact Or.inl ⟨by rfl, fun W' hW' => by have h9 := cell_of_row _ _ 1 _ _ _ hW'; simp at h9; go_simp⟩)
      (by simp only [Act.put, List.setIfInBounds_toArray, List.set_cons_zero, List.set_cons_succ]; rfl) (by exact Or.inl ⟨by rfl, fun W' hW' => by go_simp⟩)
      (by simp only [Act.put, List.setIfInBounds_toArray, List.set_cons_zero, List.set_cons_succ]; rfl) (by exact Or.inl ⟨by rfl, fun W' hW' => by have h9 := cell_of_row _ _ 2 _ _ _ hW'; simp at h9; go_simp⟩)
      (Kept.refl [] W).drew
      ⟨fun w' h => h.heap (unhide HG) (by simp), fun u3 w' h => h.2.heap (unhide HG) (by simp), fun u3 u6 w' h => h.2⟩
      (by
        intro w' k K hK
        refine wp_callN rfl Try.call61 [.int .u8 F] rfl (file_any F hF w') ?_
        rintro e w2 ⟨s, rfl, hs, k2⟩
        exact ⟨_, rfl, hK _ _ ⟨⟨s, rfl, hs⟩, k.trans k2 (by simp)⟩⟩)
      (by
        rintro u3 w' ⟨⟨s, rfl, hs⟩, k⟩ K hK
        have k9 := (unhide HK).trans k (by simp)
        refine wp_callN rfl Try.call21 [.pointer (some ⟨d, 0, none⟩), .string s, .slice pa pl pc] rfl (append_D d nb bb B σ s (.slice pa pl pc) ps w' (h.old k9) (by omega) hn (hp.kept k9 (by simp)) hpd hb) ?_
        rintro e w2 ⟨B', rfl, h9, ev⟩
        exact ⟨_, rfl, hK _ _ ⟨⟨B', _, h9, (st_sec σ s ps).2.1, Ev.pre k9 ev⟩, ev.1.heap (k.heap (unhide HG) (by simp)) (fun h7 => by have := h.lt _ h7; omega)⟩⟩)
      ?_
    rintro u3 u6 w3 ⟨⟨B', σ', h9, hse, ev⟩, _⟩
    simp only [Act.put, List.setIfInBounds_toArray, List.set_cons_zero, List.set_cons_succ]
    have HD := hide h9
    have HS := hide hse
    have HE := hide ev
    clear h9 hse ev
    go_wp2_with fail
    refine bodyPost_end (v := .tuple #[]) (results_none rfl _ _ _) rfl ⟨rfl, B', σ', unhide HD, unhide HS, unhide HE⟩
  have g1 : ((kd : Int) == 1) = false := by simp; omega
  by_cases h2 : kd = 2
  · have g2 : ((kd : Int) == 2) = true := by simp; omega
    clear h2
    go_enter Try.func25, Try.ntmps25
    go_wp2_with (first | (rw [unhide HW]) | fail)
    refine Calls.mono (file_any F hF _) ?_
    rintro e w1 ⟨s, rfl, hs, k1⟩
    have HS := hide hs
    have HK1 := hide ((unhide HK).trans k1 (by simp))
    clear hs k1
    go_wp2_with fail
    refine Calls.mono (sync_D d nb bb B σ s _ (h.old (unhide HK1)) (by have := unhide HS; omega) hn) ?_
    rintro e w2 ⟨B', rfl, h9, ev⟩
    have HD := hide h9
    have HE := hide (Ev.pre (unhide HK1) ev)
    clear h9 ev
    go_wp2_with fail
    refine bodyPost_end (v := .tuple #[]) (results_none rfl _ _ _) rfl ⟨rfl, B', _, (unhide HD).more (by omega) (by omega), (st_sec σ s ps).2.2.1, unhide HE⟩
  have g2 : ((kd : Int) == 2) = false := by simp; omega
  go_enter Try.func25, Try.ntmps25
  go_wp2_with (first | (rw [unhide HW]) | fail)
  refine Calls.mono (names_D d nb bb B σ _ (h.old (unhide HK)) hn) ?_
  rintro e w2 ⟨B', rfl, h9, ev⟩
  have HD := hide h9
  have HE := hide (Ev.pre (unhide HK) ev)
  clear h9 ev
  go_wp2_with fail
  refine bodyPost_end (v := .tuple #[]) (results_none rfl _ _ _) rfl ⟨rfl, B', _, (unhide HD).more (by omega) (by omega), (st_sec σ ByteArray.empty ps).2.2.2, unhide HE⟩
end Go.Proofs.Ytlopdlcepmmjdaa
namespace Go.Proofs.Ytlopdlcepmmjdaa
open Go.RowKit Go.BigFrame Go.Maps Go.Sort
set_option linter.unusedVariables false
set_option linter.unusedSimpArgs false
theorem fstK_at {ks : List KeepD} {s : List UInt8} {i : Nat} (h : fstK (ks.take i) s = none) (hi : i < ks.length) : (ks[i].nm.data.toList = s → fstK ks s = some ks[i]) ∧ (ks[i].nm.data.toList ≠ s → fstK (ks.take (i + 1)) s = none) := by
  unfold fstK at *
  constructor
  · intro e
    conv => lhs; rw [← List.take_append_drop i ks, List.find?_append, h, List.drop_eq_getElem_cons hi, List.find?_cons_of_pos (by simp [e])]
    rfl
  · intro e
    rw [List.take_succ_eq_append_getElem hi, List.find?_append, h]
    simp [e]

set_option maxRecDepth 100000 in
set_option maxHeartbeats 1000000 in
theorem fated_any (n : Int) (kv : Value) (ks : List KeepD) (nm : ByteArray) (tail : Nat) (w : World) (hk : RdC 3 w kv (ks.map keC)) (hl : ks.length ≤ 1048576) :
    Calls Try.prog 66 #[.agg #[.int .i64 n, kv], .string nm, .int .i64 tail] w fun e w' => e = .returned (.tuple #[.int .i64 (wtn ((fstK ks nm.data.toList).getD zK).kb tail), .bool ((fstK ks nm.data.toList).getD zK).tn]) ∧ Kept [] w w' := by
  obtain ⟨ka, kl, kc, rfl, g1, g2, g3, g4⟩ := hk
  rw [List.length_map] at g1
  subst g1
  have hk0 := (Kept.refl [] w).alloc (.cells #[.int .i64 n, .slice ka ks.length kc] 40 (0, 0))
  have hg := heap_alloc_new w (.cells #[.int .i64 n, .slice ka ks.length kc] 40 (0, 0))
  obtain ⟨W, hW⟩ : ∃ W, w.alloc (.cells #[.int .i64 n, .slice ka ks.length kc] 40 (0, 0)) = W := ⟨_, rfl⟩
  rw [hW] at hk0 hg
  have HW := hide hW
  have HK := hide hk0
  have HG := hide hg
  have H4 := hide g4
  clear hW hk0 hg g4
  go_enter Try.func66, Try.ntmps66
  go_wp2_with (first | (rw [unhide HW]) | fail)
  go_loopw [8] (fun t8 wr => ∃ i : Nat, i ≤ ks.length ∧ t8 = .int .i64 i ∧ Hid (fstK (ks.take i) nm.data.toList = none) ∧ Hid (Kept [] W wr)) (fun t _ => ks.length - (intOf t).toNat)
  case atStart => exact ⟨0, Nat.zero_le _, rfl, hide rfl, hide (Kept.refl _ _)⟩
  case round =>
    obtain ⟨i, hi, rfl, HF, HKW⟩ := hrel
    have q1 := cell_of_row _ _ 1 _ _ _ ((unhide HKW).heap (unhide HG) (by simp))
    simp at q1
    by_cases hlt : i < ks.length
    · have hlt' : (i : Int) < ks.length := by omega
      obtain ⟨b, off, rfl, hcc⟩ := unhide H4 (by omega)
      have hr := hcc i (by rw [List.length_map]; exact hlt)
      rw [List.getElem_map] at hr
      have HKX := hide ((unhide HK).trans (unhide HKW) (by simp))
      have p0 := (unhide HKX).cell (hr 0 _ rfl) (by simp)
      have p1 := (unhide HKX).cell (hr 1 _ rfl) (by simp)
      have p2 := (unhide HKX).cell (hr 2 _ rfl) (by simp)
      rw [Nat.add_zero] at p0
      have HAT := hide (fstK_at (unhide HF) hlt)
      clear hr hcc
      generalize ks[i] = X at p0 p1 p2 HAT
      go_upto_region 5 with fail
      obtain ⟨V, hV⟩ : ∃ V, wr.alloc (.cells #[.string X.nm, .int .i64 X.kb, .bool X.tn] 72 (0, 0)) = V := ⟨_, rfl⟩
      have hkv := (Kept.refl [] wr).alloc (.cells #[.string X.nm, .int .i64 X.kb, .bool X.tn] 72 (0, 0))
      have hgv := heap_alloc_new wr (.cells #[.string X.nm, .int .i64 X.kb, .bool X.tn] 72 (0, 0))
      rw [hV] at hkv hgv ⊢
      have HKV := hide hkv
      have r0 := cell_of_row _ _ 0 _ _ _ hgv
      have r1 := cell_of_row _ _ 1 _ _ _ hgv
      have r2 := cell_of_row _ _ 2 _ _ _ hgv
      simp at r0 r1 r2
      clear hV hkv hgv p0 p1 p2 q1
      by_cases hn : X.nm.data.toList = nm.data.toList
      · have hnb : (X.nm.toList == nm.toList) = true := by rw [ba_toList, ba_toList, hn]; simp
        have HR := hide ((unhide HAT).1 hn)
        clear hn
        go_upto_region 6 with fail
        refine wp_region_quiet_lit (by kernel_rfl) (by kernel_rfl) ?_
        repeat (go_big_quiet_step (fail))
        refine wpQuiet_nil ?_
        rintro _ ⟨m5, rfl⟩
        go_wp2_with fail
        go_ret2
        rw [unhide HR]
        refine ⟨?_, (((unhide HK).trans (unhide HKW) (by simp)).trans (unhide HKV) (by simp)).drewN _⟩
        simp [wtn]
      · have hnb : (X.nm.toList == nm.toList) = false := by rw [ba_toList, ba_toList]; exact beq_eq_false_iff_ne.2 hn
        have HR := hide ((unhide HAT).2 hn)
        clear hn
        go_wp2_with fail
        refine ⟨⟨i + 1, by omega, by simp, HR, hide ((unhide HKW).trans (unhide HKV) (by simp))⟩, ?_⟩
        simp [intOf]; omega
    · have hlt' : ¬ (i : Int) < ks.length := by omega
      have hie : i = ks.length := by omega
      subst hie
      rw [List.take_length] at HF
      go_wp2_with fail
      go_ret2
      rw [unhide HF]
      exact ⟨by simp [wtn, zK]; try omega, (unhide HK).trans (unhide HKW) (by simp)⟩
end Go.Proofs.Ytlopdlcepmmjdaa
namespace Go.Proofs.Ytlopdlcepmmjdaa
open Go.RowKit
set_option linter.unusedVariables false
set_option linter.unusedSimpArgs false

theorem byteD {bs : List Nat} (h : ∀ x ∈ bs, x < 256) (j : Nat) : bs.getD j 0 < 256 := by
  rw [List.getD_eq_getElem?_getD]
  rcases Nat.lt_or_ge j bs.length with hj | hj
  · rw [List.getElem?_eq_getElem hj]; exact h _ (List.getElem_mem hj)
  · rw [List.getElem?_eq_none hj]; decide

theorem take_snoc {p : List Nat} {k : Nat} (h : k < p.length) : p.take (k + 1) = p.take k ++ [p.getD k 0] := by
  rw [List.take_succ_eq_append_getElem h, List.getD_eq_getElem?_getD, List.getElem?_eq_getElem h]; rfl

set_option maxRecDepth 100000 in
set_option maxHeartbeats 1000000 in
theorem ttwin_any (v : Value) (p : List Nat) (w : World) (h : Rd w v p) (hl : p.length ≤ 140737488351232) :
    Calls Try.prog 67 #[v] w fun e w' => ∃ ao cap, e = .returned (.slice ao p.length cap) ∧ w'.ownsRow w.heap.size 5 1 (.slice ao p.length cap) p.length (p.map u8) ∧ Kept [] w w' := by
  have H := hide h
  obtain ⟨ao, len, cap, rfl, rfl, h2, ⟨h3, h3'⟩, h4, h5, h6⟩ := h
  have H6 := hide h6
  have H5 := hide h5
  clear h4 h5 h6
  go_enter Try.func67, Try.ntmps67
  go_wp2
  go_loopw [3, 4] (fun t3 t4 wr => ∃ (k : Nat) (ao1 : Option Addr) (cap1 : Nat), k ≤ p.length ∧ t3 = .slice ao1 k cap1 ∧ t4 = .int .i64 k ∧ Hid (wr.ownsRow w.heap.size 5 1 (.slice ao1 k cap1) k ((p.take k).map u8)) ∧ Hid (Kept [] w wr)) (fun _ t _ => p.length - (intOf t).toNat)
  case atStart => exact ⟨0, none, 0, Nat.zero_le _, rfl, rfl, World.ownsRow_nil _ _ _ _, Kept.refl _ _⟩
  case round =>
    obtain ⟨k, ao1, cap1, hk, rfl, rfl, HO, HK⟩ := hrel
    by_cases hlt : k < p.length
    · have hlt' : (k : Int) < p.length := by omega
      obtain ⟨b, o, rfl, hcell⟩ := unhide H6 (by omega)
      have ck := (unhide HK).cell (hcell k hlt) (by simp)
      have hb := byteD (unhide H5) k
      have HS := hide (take_snoc hlt)
      have hkl : (p.take k).length = k := by simp; omega
      clear hcell
      generalize p.getD k 0 = z at ck hb HS
      have hrs : Rd (wr.alloc (.cells #[.int .u8 (z : Int)] 5)) (.slice (some ⟨wr.heap.size, 0, none⟩) 1 1) [z] := rd_lit (heap_alloc_new wr _) rfl (by simp; omega) 1 rfl (by omega)
      have HRs := hide hrs
      have HO' := hide (by rw [hkl]; exact unhide HO : wr.ownsRow w.heap.size 5 1 (.slice ao1 k cap1) (p.take k).length ((p.take k).map Go.Proofs.Ytlopdlcepmmjdaa.u8))
      have hsz := (unhide HK).size
      have Hkl := hide hkl
      clear hrs hkl
      go_wp2_with (at_builtin; go_must (refine wpList_appendAll rfl (.tmp 11) (.tmp 16) rfl rfl _ w.heap.size (.slice ao1 k cap1) (p.take k) [z] _ 1 1 (by exact (unhide HO').alloc _) (by exact unhide HRs) (by rw [unhide Hkl]; simp; omega) (by simp; omega) rfl rfl ?_; intro ao2 cap2 w2 HO2 HG2 HA2; rw [unhide Hkl] at HO2 HA2 ⊢; simp only [List.length_cons, List.length_nil, Nat.zero_add] at HO2 HG2 HA2))
      have hk2 := ((unhide HK).alloc (.cells #[.int .u8 (z : Int)] 5)).grown (unhide HG2) (by intro j hj; right; exact ((unhide HO).lt j hj).1)
      have HK2 := hide hk2
      clear hk2
      go_wp2
      go_roundw
      case rel => exact ⟨k + 1, ao2, cap2, by omega, by simp, by go_num, hide (by have h5 := unhide HO2; rw [unhide HS]; simpa [unhide Hkl] using h5), HK2⟩
      case measure => simp [intOf]; omega
    · have hlt' : ¬ (k : Int) < p.length := by omega
      have hkn : k = p.length := by omega
      subst hkn
      go_wp2
      go_ret
      exact ⟨ao1, cap1, rfl, by have h5 := unhide HO; rwa [List.take_length] at h5, unhide HK⟩

end Go.Proofs.Ytlopdlcepmmjdaa
namespace Go.Proofs.Ytlopdlcepmmjdaa
open Go.RowKit Go.BigFrame Go.Maps Go.Sort
set_option linter.unusedVariables false
set_option linter.unusedSimpArgs false

theorem cutN_nd (k : Nat) (A : List DF) : ∀ f ∈ A, f.nd = true → f ∈ cutN k A := by
  induction A generalizing k with
  | nil => simp
  | cons a r ih =>
    intro f hf hn
    unfold cutN
    rcases List.mem_cons.1 hf with rfl | hf
    · rw [if_pos hn]; simp
    · split
      · exact List.mem_cons_of_mem _ (ih k f hf hn)
      · cases k with
        | zero => exact ih 0 f hf hn
        | succ k => exact List.mem_cons_of_mem _ (ih k f hf hn)
theorem cutN_all (k : Nat) (A : List DF) (h : ∀ f ∈ A, f.nd = true) : cutN k A = A := by
  induction A with
  | nil => rfl
  | cons a r ih =>
    unfold cutN
    rw [if_pos (h a (by simp)), ih (fun f hf => h f (by simp [hf]))]
/-- What stays, told by name. -/
def kpt (L : List DF) (f : DF) : Bool := L.any fun x => decide (x.nm = f.nm)
theorem kpt_iff {L : List DF} {f : DF} : kpt L f = true ↔ ∃ x ∈ L, x.nm = f.nm := by unfold kpt; simp
theorem sub_filter {L A : List DF} (h : L.Sublist A) (hd : Dist A) : L = A.filter (kpt L) := by
  induction h with
  | slnil => rfl
  | @cons l₁ l₂ a h ih =>
    have hd2 : Dist l₂ := (List.pairwise_cons.1 hd).2
    have hn : kpt l₁ a = false := by
      rw [Bool.eq_false_iff]
      intro h9
      obtain ⟨x, hx, e⟩ := kpt_iff.1 h9
      exact (List.pairwise_cons.1 hd).1 x (h.subset hx) e.symm
    rw [List.filter_cons_of_neg (by rw [hn]; simp)]
    exact ih hd2
  | @cons_cons l₁ l₂ a h ih =>
    have hd2 : Dist l₂ := (List.pairwise_cons.1 hd).2
    rw [List.filter_cons_of_pos (by rw [kpt_iff]; exact ⟨a, by simp, rfl⟩)]
    congr 1
    have e : l₂.filter (kpt (a :: l₁)) = l₂.filter (kpt l₁) := by
      apply List.filter_congr
      intro x hx
      have hne := (List.pairwise_cons.1 hd).1 x hx
      unfold kpt
      simp [hne]
    rw [e]
    exact ih hd2
theorem setF_nd (k : KeepD) (sec : Nat) (f : DF) : (setF k sec f).nd = true := by unfold setF; split <;> rfl
theorem setF_fix (k : KeepD) (sec : Nat) (f : DF) (h1 : f.sy = f.bs.length) (h2 : f.nd = true) : setF k sec f = f := by
  obtain ⟨nm, bs, sy, nd⟩ := f
  dsimp only at h1 h2
  subst h1 h2
  have hN : setN k ⟨nm, bs, bs.length, true⟩ = bs.length := by unfold setN wtn; dsimp only; omega
  unfold setF
  rw [hN]
  dsimp only
  rw [if_neg (by omega), List.take_length]
/-- The first cut: what is left, in order. -/
theorem leaves_pure (σ : DSt) (hd : Dist σ.A) (hs : 1 ≤ σ.sec) (n : Int) (ks : List KeepD) (hsy : ∀ f ∈ σ.A, f.sy ≤ f.bs.length) :
    ∃ (p : DF → Bool) (g : DF → KeepD), srtA (stRestart σ n ks).A = ((srtA σ.A).filter p).map (fun f => setF (g f) σ.sec f) ∧ (∀ f ∈ srtA σ.A, f.nd = true → p f = true) := by
  let L := cutN (wtn n (unA σ.A)).toNat σ.A
  have hL : L = σ.A.filter (kpt L) := sub_filter (cutN_sub _ _) hd
  refine ⟨kpt L, fun f => (fstK ks f.nm.data.toList).getD zK, ?_, ?_⟩
  · show srtA (setA ks σ.sec L) = _
    unfold setA
    rw [srtA_map (hd.sublist (cutN_sub _ _)) (fun x => setF_nm _ _ x)]
    have e := srtA_filter hd (kpt L)
    rw [← hL] at e
    rw [e]
  · intro f hf hn
    rw [kpt_iff]
    exact ⟨f, cutN_nd _ _ f (srtA_mem.1 hf) hn, rfl⟩
/-- The second cut leaves all as it is. -/
theorem leaves_again (σ : DSt) (n m : Int) (ks ls : List KeepD) (h : ∀ f ∈ (stRestart σ n ks).A, f.sy = f.bs.length) : (stRestart (stRestart σ n ks) m ls).A = (stRestart σ n ks).A := by
  have hnd : ∀ f ∈ (stRestart σ n ks).A, f.nd = true := by
    intro f hf
    obtain ⟨a, _, rfl⟩ := List.mem_map.1 hf
    exact setF_nd _ _ _
  show setA ls σ.sec (cutN _ (stRestart σ n ks).A) = _
  rw [cutN_all _ _ hnd]
  unfold setA
  conv => rhs; rw [← List.map_id (stRestart σ n ks).A]
  apply List.map_congr_left
  intro f hf
  exact setF_fix _ _ _ (h f hf) (hnd f hf)
/-- Where the walk over what was stands in what is. -/
theorem kept_at {W : List DF} {p : DF → Bool} {i : Nat} (hi : i < W.length) (hp : p W[i] = true) : (W.filter p)[((W.take i).filter p).length]? = some W[i] := by
  conv => lhs; arg 1; rw [← List.take_append_drop i W]
  rw [List.filter_append, List.getElem?_append_right (Nat.le_refl _), Nat.sub_self, List.drop_eq_getElem_cons hi, List.filter_cons_of_pos hp]
  rfl
theorem kept_no {W : List DF} {p : DF → Bool} (hd : Dist W) {i j : Nat} (hi : i < W.length) (hp : p W[i] = false) {x : DF} (hx : (W.filter p)[j]? = some x) : x.nm ≠ W[i].nm := by
  intro e
  have hm := List.mem_filter.1 (List.mem_of_getElem? hx)
  have e1 := findA_of hd hm.1
  have e2 := findA_of hd (List.getElem_mem hi)
  rw [e, e2] at e1
  have := Option.some.inj e1
  rw [← this, hp] at hm
  simp at hm
theorem kept_step {W : List DF} {p : DF → Bool} {i : Nat} (hi : i < W.length) : ((W.take (i + 1)).filter p).length = ((W.take i).filter p).length + (if p W[i] then 1 else 0) := by
  rw [List.take_succ_eq_append_getElem hi, List.filter_append, List.length_append]
  by_cases h : p W[i] = true
  · rw [if_pos h, List.filter_cons_of_pos h]; rfl
  · rw [if_neg h, List.filter_cons_of_neg h]; rfl
end Go.Proofs.Ytlopdlcepmmjdaa
namespace Go.Proofs.Ytlopdlcepmmjdaa
open Go.RowKit Go.BigFrame Go.Maps Go.Sort
set_option linter.unusedVariables false
set_option linter.unusedSimpArgs false
/-- Of the names that are not durable, a cut leaves as many as the fate says, or all. -/
theorem cutN_un (k : Nat) (A : List DF) : unA (cutN k A) = min k (unA A) := by
  induction A generalizing k with
  | nil => simp [cutN, unA]
  | cons f r ih =>
    unfold cutN
    by_cases h : f.nd = true
    · rw [if_pos h]
      have e : ∀ L : List DF, unA (f :: L) = unA L := fun L => by unfold unA; rw [List.filter_cons_of_neg (by simp [h])]
      rw [e, e]
      exact ih k
    · rw [if_neg h]
      have e : ∀ L : List DF, unA (f :: L) = unA L + 1 := fun L => by unfold unA; rw [List.filter_cons_of_pos (by simp [h])]; rfl
      cases k with
      | zero => simp only; rw [ih 0]; omega
      | succ k => simp only; rw [e, e, ih k]; omega
end Go.Proofs.Ytlopdlcepmmjdaa
namespace Go.Proofs.Ytlopdlcepmmjdaa
open Go.RowKit Go.BigFrame Go.Maps Go.Sort
set_option linter.unusedVariables false
set_option linter.unusedSimpArgs false
theorem unA_perm {A B : List DF} (h : A.Perm B) : unA A = unA B := (h.filter _).length_eq
theorem unA_split (A : List DF) (q : DF → Bool) (hq : ∀ f ∈ A, f.nd = true → q f = true) : unA A = unA (A.filter q) + (A.filter fun f => !q f).length := by
  induction A with
  | nil => rfl
  | cons a r ih =>
    have ih := ih (fun f hf => hq f (by simp [hf]))
    have h0 := hq a (by simp)
    unfold unA at *
    rw [List.filter_filter] at ih
    cases hn : a.nd <;> cases hp : q a
    · simp [hn, hp]; omega
    · simp [hn, hp]; omega
    · have := h0 hn; rw [hp] at this; simp at this
    · simp [hn, hp]; omega
/-- What a cut leaves, in order, and how many names it leaves. -/
theorem durable_pure (σ : DSt) (hd : Dist σ.A) (n : Int) (ks : List KeepD) :
    ∃ (q : DF → Bool), srtA (stRestart σ n ks).A = ((srtA σ.A).filter q).map (fun f => setF ((fstK ks f.nm.data.toList).getD zK) σ.sec f) ∧ (∀ f ∈ srtA σ.A, f.nd = true → q f = true) ∧
      (unA (srtA σ.A) : Int) - (((srtA σ.A).filter fun f => !q f).length : Nat) = min (max n 0) (unA (srtA σ.A) : Nat) := by
  let L := cutN (wtn n (unA σ.A)).toNat σ.A
  have hL : L = σ.A.filter (kpt L) := sub_filter (cutN_sub _ _) hd
  have e : srtA L = (srtA σ.A).filter (kpt L) := by
    have e := srtA_filter hd (kpt L)
    rw [← hL] at e
    exact e
  have hnd : ∀ f ∈ srtA σ.A, f.nd = true → kpt L f = true := by
    intro f hf hn
    rw [kpt_iff]
    exact ⟨f, cutN_nd _ _ f (srtA_mem.1 hf) hn, rfl⟩
  refine ⟨kpt L, ?_, hnd, ?_⟩
  · show srtA (setA ks σ.sec L) = _
    unfold setA
    rw [srtA_map (hd.sublist (cutN_sub _ _)) (fun x => setF_nm _ _ x), e]
  · have h1 := unA_split (srtA σ.A) (kpt L) hnd
    rw [← e, unA_perm (srtA_perm L), cutN_un] at h1
    have h2 : unA (srtA σ.A) = unA σ.A := unA_perm (srtA_perm σ.A)
    rw [h2] at h1 ⊢
    unfold wtn at h1
    omega
theorem un_step {W : List DF} {i : Nat} (hi : i < W.length) : unA (W.take (i + 1)) = unA (W.take i) + (if W[i].nd then 0 else 1) := by
  unfold unA
  rw [kept_step (p := fun f => !f.nd) hi]
  cases W[i].nd <;> rfl
theorem setN_le (k : KeepD) (f : DF) (h : f.sy ≤ f.bs.length) : setN k f ≤ f.bs.length := by unfold setN wtn; omega
theorem setF_sy (k : KeepD) (sec : Nat) (f : DF) (h : f.sy ≤ f.bs.length) : (setF k sec f).sy = (setF k sec f).bs.length := by
  have h1 := setN_le k f h
  unfold setF
  split
  · simp; omega
  · simp; omega
end Go.Proofs.Ytlopdlcepmmjdaa
namespace Go.Proofs.Ytlopdlcepmmjdaa
open Go.RowKit Go.BigFrame Go.Maps Go.Sort
set_option linter.unusedVariables false
set_option linter.unusedSimpArgs false
theorem mod_shift (p s j : Nat) : (p + j) % s = (p % s + j) % s := by rw [Nat.mod_add_mod]
theorem tse_lt {p s j : Nat} (hs : 1 ≤ s) (h : j < tse p s) : (p + j) % s ≠ 0 := by
  have h1 : p % s < s := Nat.mod_lt _ (by omega)
  unfold tse at h
  rw [mod_shift]
  generalize p % s = r at h h1 ⊢
  by_cases h0 : r = 0
  · subst h0
    rw [Nat.sub_zero, Nat.mod_self] at h
    omega
  · rw [Nat.mod_eq_of_lt (by omega)] at h
    rw [Nat.mod_eq_of_lt (by omega)]
    omega
theorem tse_at {p s : Nat} (hs : 1 ≤ s) : (p + tse p s) % s = 0 := by
  have h1 : p % s < s := Nat.mod_lt _ (by omega)
  unfold tse
  rw [mod_shift]
  generalize p % s = r at h1 ⊢
  by_cases h0 : r = 0
  · subst h0
    rw [Nat.sub_zero, Nat.mod_self]
    simp
  · rw [Nat.mod_eq_of_lt (by omega : s - r < s), show r + (s - r) = s by omega, Nat.mod_self]
theorem tse_le {p s : Nat} (hs : 1 ≤ s) : tse p s < s := Nat.mod_lt _ (by omega)
theorem Rd.take0 {w : World} {ao : Option Addr} {cap n : Nat} {p : List Nat} (h : Rd w (.slice ao p.length cap) p) (hn : n ≤ p.length) : Rd w (.slice ao n cap) (p.take n) := by
  obtain ⟨ao1, len, cap1, e, h1, h2, ⟨h3, h3'⟩, h4, h5, h6⟩ := h
  cases e
  refine ⟨_, _, _, rfl, by rw [List.length_take]; omega, by omega, ⟨by omega, by omega⟩, h4, fun x hx => h5 x (List.mem_of_mem_take hx), fun hp => ?_⟩
  obtain ⟨b, off, e2, hc⟩ := h6 (by omega)
  refine ⟨b, off, e2, fun i hi => ?_⟩
  have h9 := hc i (by omega)
  rw [List.getD_eq_getElem?_getD, List.getElem?_take_of_lt hi, ← List.getD_eq_getElem?_getD]
  exact h9

def lenV : Value → Nat
  | .slice _ n _ => n
  | _ => 0

set_option maxRecDepth 100000 in
set_option maxHeartbeats 2000000 in
theorem tleft_any (n : Int) (kv : Value) (ks : List KeepD) (X : DF) (xv : Value) (sec : Nat) (w : World) (hk : RdC 3 w kv (ks.map keC)) (hl : ks.length ≤ 1048576) (hx : Rd w xv X.bs) (hsy : X.sy ≤ X.bs.length) (hb : X.bs.length ≤ 140737488340000) (hs : 1 ≤ sec) (hs2 : sec ≤ 4096) :
    Calls Try.prog 30 #[.agg #[.int .i64 n, kv], .agg #[.string X.nm, xv, .int .i64 (X.sy : Int), .bool X.nd], .int .i64 sec] w fun e w' => ∃ v, e = .returned v ∧ Rd w' v (setF ((fstK ks X.nm.data.toList).getD zK) sec X).bs ∧ Kept [] w w' := by
  obtain ⟨ka, kl, kc, hkv⟩ : ∃ a l c, kv = .slice a l c := by obtain ⟨a, l, c, h1, _⟩ := hk; exact ⟨a, l, c, h1⟩
  subst hkv
  obtain ⟨xa, xl, xc, hxv, hxl, hxc, ⟨hxc2, hxl2⟩, _⟩ := id hx
  subst hxv
  subst hxl
  have kA := (Kept.refl [] w).alloc (.cells #[.int .i64 n, .slice ka kl kc] 40 (0, 0))
  have gA := heap_alloc_new w (.cells #[.int .i64 n, .slice ka kl kc] 40 (0, 0))
  obtain ⟨WA, hWA⟩ : ∃ W, w.alloc (.cells #[.int .i64 n, .slice ka kl kc] 40 (0, 0)) = W := ⟨_, rfl⟩
  rw [hWA] at kA gA
  have HWA := hide hWA
  have kB := (Kept.refl [] WA).alloc (.cells #[.string X.nm, .slice xa X.bs.length xc, .int .i64 (X.sy : Int), .bool X.nd] 54 (0, 0))
  have gB := heap_alloc_new WA (.cells #[.string X.nm, .slice xa X.bs.length xc, .int .i64 (X.sy : Int), .bool X.nd] 54 (0, 0))
  obtain ⟨WB, hWB⟩ : ∃ W, WA.alloc (.cells #[.string X.nm, .slice xa X.bs.length xc, .int .i64 (X.sy : Int), .bool X.nd] 54 (0, 0)) = W := ⟨_, rfl⟩
  rw [hWB] at kB gB
  have HWB := hide hWB
  have HK := hide (kA.trans kB (by simp))
  have HGA := hide (kB.heap gA (by simp))
  have HGB := hide gB
  have a0 := cell_of_row _ _ 0 _ _ _ (unhide HGA)
  have a1 := cell_of_row _ _ 1 _ _ _ (unhide HGA)
  have b0 := cell_of_row _ _ 0 _ _ _ gB
  have b1 := cell_of_row _ _ 1 _ _ _ gB
  have b2 := cell_of_row _ _ 2 _ _ _ gB
  simp at a0 a1 b0 b1 b2
  obtain ⟨K, hK⟩ : ∃ K, (fstK ks X.nm.data.toList).getD zK = K := ⟨_, rfl⟩
  obtain ⟨m, hm⟩ : ∃ m, X.bs.length = X.sy + m := ⟨X.bs.length - X.sy, by omega⟩
  have hq0 : 0 ≤ wtn K.kb m ∧ wtn K.kb m ≤ m := by unfold wtn; omega
  obtain ⟨q, hq⟩ : ∃ q : Nat, wtn K.kb m = q := ⟨(wtn K.kb m).toNat, by omega⟩
  have hqm : q ≤ m := by omega
  have hN : setN K X = X.sy + q := by unfold setN; rw [show ((X.bs.length : Int) - X.sy) = (m : Int) by omega, hq]; simp
  have HF := hide (fun W (k : Kept [] WB W) => by
    have h9 := fated_any n (.slice ka kl kc) ks X.nm m W ((hk.old (unhide HK)).old k) hl
    rw [hK, hq] at h9
    exact h9)
  have HT := hide (fun W (k : Kept [] WB W) => by
    have h9 := ttwin_any (.slice xa (X.sy + q) xc) (X.bs.take (X.sy + q)) W (Rd.take0 ((hx.old (unhide HK) (by simp)).old k (by simp)) (by omega)) (by rw [List.length_take]; omega)
    rw [show (X.bs.take (X.sy + q)).length = X.sy + q by rw [List.length_take]; omega] at h9
    exact h9)
  have HNN := hide hN
  have HBY := hide hx.byte
  have hw1 : wrap64 ((X.bs.length : Int) - (X.sy : Int)) = (m : Int) := by unfold wrap64; omega
  have hw2 : IntKind.i64.wrap ((X.bs.length : Int) - (X.sy : Int)) = (m : Int) := by rw [show ((X.bs.length : Int) - X.sy) = (m : Int) by omega]; rw [IntKind.wrap_i64]; omega
  obtain ⟨M, hM⟩ : ∃ M, X.sy + q = M := ⟨_, rfl⟩
  have hw3 : (X.sy : Int) + (q : Int) = (M : Int) := by omega
  rw [hM] at HT HNN
  have hML : M ≤ X.bs.length := by omega
  have hMc : M ≤ xc := by omega
  have HM := hide hm
  have HMM := hide hM
  rw [hK]
  obtain ⟨KT, hKT⟩ : ∃ b, K.tn = b := ⟨_, rfl⟩
  rw [hKT] at HF
  have HKT := hide hKT
  clear hWA hWB kA kB gA gB hk hx hsy hm hN hq hq0 hqm hM hK hKT
  obtain ⟨L, hL⟩ : ∃ L, X.bs.length = L := ⟨_, rfl⟩
  have HL := hide hL
  rw [hL] at b1 hw1 hw2 hML hb HWB hxc hxl2
  rw [hL]
  clear hL
  go_enter Try.func30, Try.ntmps30
  go_wp2_with (first | (rw [unhide HWA]) | (rw [unhide HWB]) | fail)
  refine Calls.mono (unhide HF _ (Kept.refl _ _)) ?_
  rintro e w1 ⟨rfl, k1⟩
  have HK1 := hide k1
  have b1 := k1.cell b1 (by simp)
  have b2 := k1.cell b2 (by simp)
  clear k1 a0 a1 b0
  go_wp2_with fail
  refine Calls.mono (unhide HT _ (unhide HK1)) ?_
  rintro e w2 ⟨ao, cap, rfl, ho, k2⟩
  have HO := hide ho
  have HK2 := hide ((unhide HK1).trans k2 (by simp))
  have b1 := k2.cell b1 (by simp)
  have HK12 := hide k2
  clear ho k2 b2
  by_cases ht : KT = true ∧ M < L
  · obtain ⟨rfl, hlt⟩ := ht
    have hlt' : (M : Int) < (L : Int) := by omega
    have HFIN := hide (by
      unfold setF
      rw [unhide HNN, if_pos ⟨unhide HKT, by rw [unhide HL]; exact hlt⟩] : (setF K sec X).bs = X.bs.take M ++ List.replicate (tse M sec) 0)
    have h0 : ((sec : Int) == 0) = false := by simp; omega
    go_wp2_with fail
    clear hlt hlt'
    go_loopw [9] (fun t9 wr => ∃ (j N1 : Nat) (ao1 : Option Addr) (cap1 : Nat), j ≤ tse M sec ∧ Hid (N1 = M + j) ∧ t9 = .slice ao1 N1 cap1 ∧ Hid (wr.ownsRow w1.heap.size 5 1 (.slice ao1 N1 cap1) N1 ((X.bs.take M ++ List.replicate j 0).map Go.Proofs.Ytlopdlcepmmjdaa.u8)) ∧ Hid (Kept [] w1 wr)) (fun t _ => M + tse M sec - lenV t)
    case atStart => exact ⟨0, M, ao, cap, Nat.zero_le _, hide rfl, rfl, hide (by rw [List.replicate_zero, List.append_nil]; exact unhide HO), HK12⟩
    case round =>
      obtain ⟨j, N1, ao1, cap1, hj, HN1, rfl, HO1, HKW⟩ := hrel
      by_cases hlt : j < tse M sec
      · have hr : ((N1 : Int) % (sec : Int) != 0) = true := by
          have h9 := tse_lt hs hlt
          rw [← unhide HN1] at h9
          simp
          omega
        have hrs : Rd (wr.alloc (.cells #[.int .u8 0] 5)) (.slice (some ⟨wr.heap.size, 0, none⟩) 1 1) [0] := rd_lit (heap_alloc_new wr _) rfl (by simp) 1 rfl (by omega)
        have HRs := hide hrs
        have HPL := hide (by have h9 := unhide HL; have h8 := unhide HN1; rw [List.length_append, List.length_take, List.length_replicate]; omega : (X.bs.take M ++ List.replicate j 0).length = N1)
        have HO' := hide (by rw [unhide HPL]; exact unhide HO1 : wr.ownsRow w1.heap.size 5 1 (.slice ao1 N1 cap1) (X.bs.take M ++ List.replicate j 0).length ((X.bs.take M ++ List.replicate j 0).map Go.Proofs.Ytlopdlcepmmjdaa.u8))
        have hsz := (unhide HKW).size
        have hnb : N1 ≤ 140737488350000 := by have h7 := tse_le (p := M) hs; have h8 := unhide HN1; omega
        clear hrs
        go_wp2_with (at_builtin; go_must (refine wpList_appendAll rfl (.tmp 45) (.tmp 46) rfl rfl _ w1.heap.size (.slice ao1 N1 cap1) (X.bs.take M ++ List.replicate j 0) [0] _ 1 1 (by exact (unhide HO').alloc _) (by exact unhide HRs) (by rw [unhide HPL]; simp; omega) (by simp; omega) rfl rfl ?_; intro ao2 cap2 w3 HO2 HG2 HA2; rw [unhide HPL] at HO2 HA2 ⊢; simp only [List.length_cons, List.length_nil, Nat.zero_add] at HO2 HG2 HA2))
        have hk2 := ((unhide HKW).alloc (.cells #[.int .u8 0] 5)).grown (unhide HG2) (by intro j hj; right; exact ((unhide HO1).lt j hj).1)
        have HK3 := hide hk2
        clear hk2
        go_wp2
        go_roundw
        case rel => exact ⟨j + 1, N1 + 1, ao2, cap2, by omega, hide (by have := unhide HN1; omega), by simp, hide (by have h5 := unhide HO2; rw [List.append_assoc, show List.replicate j 0 ++ [0] = List.replicate (j + 1) 0 from (List.replicate_succ' ..).symm, List.length_append, List.length_replicate, ← Nat.add_assoc, show (X.bs.take M).length + j = N1 from by have h6 := unhide HPL; rw [List.length_append, List.length_replicate] at h6; exact h6] at h5; exact h5), HK3⟩
        case measure => simp [lenV]; have := unhide HN1; omega
      · have hr : ((N1 : Int) % (sec : Int) != 0) = false := by
          have h9 := tse_at (p := M) hs
          rw [← show j = tse M sec by omega, ← unhide HN1] at h9
          simp
          omega
        have hje : j = tse M sec := by omega
        subst hje
        have HPL := hide (by have h9 := unhide HL; have h8 := unhide HN1; rw [List.length_append, List.length_take, List.length_replicate]; omega : (X.bs.take M ++ List.replicate (tse M sec) 0).length = N1)
        have hnb : N1 ≤ 140737488350000 := by have h7 := tse_le (p := M) hs; have h8 := unhide HN1; omega
        have HFF := hide (by
          rw [unhide HFIN]
          refine rd_owns (by rw [unhide HPL]; exact unhide HO1) ?_ (by rw [unhide HPL]; omega)
          intro x hx
          rcases List.mem_append.1 hx with h1 | h1
          · exact unhide HBY x (List.mem_of_mem_take h1)
          · have := List.eq_of_mem_replicate h1; omega : Rd wr (.slice ao1 N1 cap1) (setF K sec X).bs)
        clear hnb hj hlt
        go_wp2_with fail
        go_ret
        exact ⟨_, rfl, unhide HFF, ((unhide HK).trans (unhide HK1) (by simp)).trans (unhide HKW) (by simp)⟩
  · have ht2 : (KT && decide ((M : Int) < (L : Int))) = false := by
      cases KT
      · rfl
      · have : ¬ M < L := fun h => ht ⟨rfl, h⟩
        simp; omega
    have HFIN := hide (by
      unfold setF
      rw [unhide HNN, if_neg (by intro h9; exact ht ⟨by rw [← unhide HKT]; exact h9.1, by rw [← unhide HL]; exact h9.2⟩)] : (setF K sec X).bs = X.bs.take M)
    have hfin : ∃ v, Ending.returned (.slice ao M cap) = .returned v ∧ Rd w2 v (setF K sec X).bs ∧ Kept [] w w2 := by
      refine ⟨_, rfl, ?_, (unhide HK).trans (unhide HK2) (by simp)⟩
      rw [unhide HFIN]
      have h9 := rd_owns (bs := X.bs.take M) (by rw [show (X.bs.take M).length = M by rw [List.length_take, unhide HL]; omega]; exact unhide HO) (fun x hx => unhide HBY x (List.mem_of_mem_take hx)) (by rw [List.length_take]; omega)
      exact h9
    have HFN := hide hfin
    clear hfin ht
    cases KT
    · clear ht2
      go_wp2_with fail
      go_ret
      exact unhide HFN
    · have hlt : ¬ (M : Int) < (L : Int) := by simpa using ht2
      clear ht2
      go_wp2_with fail
      go_ret
      exact unhide HFN
end Go.Proofs.Ytlopdlcepmmjdaa
namespace Go.Proofs.Ytlopdlcepmmjdaa
open Go.RowKit Go.BigFrame Go.Maps Go.Sort
set_option linter.unusedVariables false
set_option linter.unusedSimpArgs false
theorem fstF_at {fl : List (Int × Int)} {a : Int} {i : Nat} (h : fstF (fl.take i) a = none) (hi : i < fl.length) : (fl[i].1 = a → fstF fl a = some fl[i].2) ∧ (fl[i].1 ≠ a → fstF (fl.take (i + 1)) a = none) := by
  unfold fstF at *
  rw [Option.map_eq_none_iff] at h
  constructor
  · intro e
    conv => lhs; rw [← List.take_append_drop i fl, List.find?_append, h, List.drop_eq_getElem_cons hi, List.find?_cons_of_pos (by simp [e])]
    rfl
  · intro e
    rw [List.take_succ_eq_append_getElem hi, List.find?_append, h]
    simp [e]

set_option maxRecDepth 100000 in
set_option maxHeartbeats 1000000 in
theorem refused_any (c nb bb : Nat) (R : List Nat) (σ : DSt) (a : Int) (w : World) (h : RK w c R nb bb σ) (hn : nb ≤ 1000000000) :
    Calls Try.prog 82 #[.pointer (some ⟨c, 0, none⟩), .int .i64 a] w fun e w' => ∃ b, e = .returned (.tuple #[.agg #[.int .i64 b, .int .i64 ((σ.ft a).getD 0)], .bool (σ.ft a).isSome]) ∧ Kept [] w w' := by
  obtain ⟨fsv, ts, fav, fl, h1, h2, h3, h4, h5, h6, h7⟩ := h.ex
  obtain ⟨ka, kl, kc, rfl, g1, g2, g3, g4⟩ := h4
  rw [List.length_map] at g1
  subst g1
  rw [← h6]
  have hk0 := (Kept.refl [] w).alloc (.cells #[.int .i64 0, .int .i64 0] 104 (0, 0))
  have hg := heap_alloc_new w (.cells #[.int .i64 0, .int .i64 0] 104 (0, 0))
  obtain ⟨W, hW⟩ : ∃ W, w.alloc (.cells #[.int .i64 0, .int .i64 0] 104 (0, 0)) = W := ⟨_, rfl⟩
  rw [hW] at hk0 hg
  have HW := hide hW
  have HK := hide hk0
  have HG := hide hg
  have H4 := hide g4
  have q2 := cell_of_row _ _ 2 _ _ _ (hk0.heap h1 (by simp))
  simp at q2
  clear hW hk0 hg g4 h1 h2 h3 h6 h7 h
  go_enter Try.func82, Try.ntmps82
  go_wp2_with (first | (rw [unhide HW]) | fail)
  go_loopw [13] (fun t13 wr => ∃ i : Nat, i ≤ fl.length ∧ t13 = .int .i64 i ∧ Hid (fstF (fl.take i) a = none) ∧ Hid (Kept [] W wr)) (fun t _ => fl.length - (intOf t).toNat)
  case atStart => exact ⟨0, Nat.zero_le _, rfl, hide rfl, hide (Kept.refl _ _)⟩
  case round =>
    obtain ⟨i, hi, rfl, HF, HKW⟩ := hrel
    by_cases hlt : i < fl.length
    · have hlt' : (i : Int) < fl.length := by omega
      obtain ⟨b, off, rfl, hcc⟩ := unhide H4 (by omega)
      have hr := hcc i (by rw [List.length_map]; exact hlt)
      rw [List.getElem_map] at hr
      have HKX := hide ((unhide HK).trans (unhide HKW) (by simp))
      have p0 := (unhide HKX).cell (hr 0 _ rfl) (by simp)
      have p1 := (unhide HKX).cell (hr 1 _ rfl) (by simp)
      rw [Nat.add_zero] at p0
      have HAT := hide (fstF_at (unhide HF) hlt)
      clear hr hcc
      generalize fl[i] = X at p0 p1 HAT
      go_upto_region 4 with fail
      obtain ⟨V, hV⟩ : ∃ V, wr.alloc (.cells #[.int .i64 X.1, .int .i64 X.2] 104 (0, 0)) = V := ⟨_, rfl⟩
      have hkv := (Kept.refl [] wr).alloc (.cells #[.int .i64 X.1, .int .i64 X.2] 104 (0, 0))
      have hgv := heap_alloc_new wr (.cells #[.int .i64 X.1, .int .i64 X.2] 104 (0, 0))
      rw [hV] at hkv hgv ⊢
      have HKV := hide ((unhide HKW).trans hkv (by simp))
      have r0 := cell_of_row _ _ 0 _ _ _ hgv
      have r1 := cell_of_row _ _ 1 _ _ _ hgv
      simp at r0 r1
      clear hV hkv hgv p0 p1
      by_cases hn : X.1 = a
      · have hnb : (X.1 == a) = true := by simp [hn]
        have HR := hide ((unhide HAT).1 hn)
        have HZ := hide ((unhide HKV).heap (unhide HG) (by simp))
        have b0 := cell_of_row _ _ 0 _ _ _ (unhide HZ)
        have b1 := cell_of_row _ _ 1 _ _ _ (unhide HZ)
        simp at b0 b1
        have f0 := frozen_of_row _ _ 0 _ _ (unhide HZ)
        have f1 := frozen_of_row _ _ 1 _ _ (unhide HZ)
        clear hn HAT
        go_wp2_with fail
        refine bodyPost_ret (v := .tuple #[.agg #[.int .i64 X.1, .int .i64 X.2], .bool true]) ?_ rfl ⟨X.1, by rw [unhide HR]; rfl, ?_⟩
        · exact results_cell_tmp rfl _ _ w.heap.size _ _ (0, 0) _ rfl (rput2_heap (unhide HZ) _ _) Try.underlying104 rfl Try.size_fault _ rfl
        · exact rput2_kept ((unhide HK).trans (unhide HKV) (by simp)) w.heap.size (.inr (Nat.le_refl _)) _ _
      · have hnb : (X.1 == a) = false := by simp [hn]
        have HR := hide ((unhide HAT).2 hn)
        clear hn HAT
        go_wp2_with fail
        refine ⟨⟨i + 1, by omega, by simp, HR, HKV⟩, ?_⟩
        simp [intOf]; omega
    · have hlt' : ¬ (i : Int) < fl.length := by omega
      have hie : i = fl.length := by omega
      subst hie
      rw [List.take_length] at HF
      have HZ := hide ((unhide HKW).heap (unhide HG) (by simp))
      have b0 := cell_of_row _ _ 0 _ _ _ (unhide HZ)
      have b1 := cell_of_row _ _ 1 _ _ _ (unhide HZ)
      simp at b0 b1
      have f0 := frozen_of_row _ _ 0 _ _ (unhide HZ)
      have f1 := frozen_of_row _ _ 1 _ _ (unhide HZ)
      go_wp2_with fail
      refine bodyPost_ret (v := .tuple #[.agg #[.int .i64 0, .int .i64 0], .bool false]) ?_ rfl ⟨⟨0, by rw [unhide HF]; rfl⟩, ?_⟩
      · exact results_cell_tmp rfl _ _ w.heap.size _ _ (0, 0) _ rfl (rput2_heap (unhide HZ) _ _) Try.underlying104 rfl Try.size_fault _ rfl
      · exact rput2_kept ((unhide HK).trans (unhide HKW) (by simp)) w.heap.size (.inr (Nat.le_refl _)) _ _

set_option maxRecDepth 100000 in
set_option maxHeartbeats 1000000 in
theorem rkeep_any (n : Int) (kv : Value) (ks : List KeepD) (s : ByteArray) (w : World) (hk : RdC 3 w kv (ks.map keC)) (hl : ks.length ≤ 1000000000) :
    Calls Try.prog 72 #[.agg #[.int .i64 n, kv], .string s] w fun e w' => e = .returned (keV ((fstK ks s.data.toList).getD zK)) ∧ Kept [] w w' := by
  obtain ⟨ka, kl, kc, rfl, g1, g2, g3, g4⟩ := hk
  rw [List.length_map] at g1
  subst g1
  have kA := (Kept.refl [] w).alloc (.cells #[.int .i64 n, .slice ka ks.length kc] 40 (0, 0))
  have gA := heap_alloc_new w (.cells #[.int .i64 n, .slice ka ks.length kc] 40 (0, 0))
  obtain ⟨WA, hWA⟩ : ∃ W, w.alloc (.cells #[.int .i64 n, .slice ka ks.length kc] 40 (0, 0)) = W := ⟨_, rfl⟩
  rw [hWA] at kA gA
  have HWA := hide hWA
  have kB := (Kept.refl [] WA).alloc (.cells #[.string ⟨#[]⟩, .int .i64 0, .bool false] 72 (0, 0))
  have gB := heap_alloc_new WA (.cells #[.string ⟨#[]⟩, .int .i64 0, .bool false] 72 (0, 0))
  obtain ⟨WB, hWB⟩ : ∃ W, WA.alloc (.cells #[.string ⟨#[]⟩, .int .i64 0, .bool false] 72 (0, 0)) = W := ⟨_, rfl⟩
  rw [hWB] at kB gB
  have HWB := hide hWB
  have HK := hide (kA.trans kB (by simp))
  have HG := hide gB
  have HSA := hide kA.size
  have H4 := hide g4
  have q1 := cell_of_row _ _ 1 _ _ _ (kB.heap gA (by simp))
  simp at q1
  clear hWA hWB kA kB gA gB g4
  go_enter Try.func72, Try.ntmps72
  go_wp2_with (first | (rw [unhide HWA]) | (rw [unhide HWB]) | fail)
  go_loopw [10] (fun t10 wr => ∃ i : Nat, i ≤ ks.length ∧ t10 = .int .i64 i ∧ Hid (fstK (ks.take i) s.data.toList = none) ∧ Hid (Kept [] WB wr)) (fun t _ => ks.length - (intOf t).toNat)
  case atStart => exact ⟨0, Nat.zero_le _, rfl, hide rfl, hide (Kept.refl _ _)⟩
  case round =>
    obtain ⟨i, hi, rfl, HF, HKW⟩ := hrel
    by_cases hlt : i < ks.length
    · have hlt' : (i : Int) < ks.length := by omega
      obtain ⟨b, off, rfl, hcc⟩ := unhide H4 (by omega)
      have hr := hcc i (by rw [List.length_map]; exact hlt)
      rw [List.getElem_map] at hr
      have HKX := hide ((unhide HK).trans (unhide HKW) (by simp))
      have p0 := (unhide HKX).cell (hr 0 _ rfl) (by simp)
      have p1 := (unhide HKX).cell (hr 1 _ rfl) (by simp)
      have p2 := (unhide HKX).cell (hr 2 _ rfl) (by simp)
      rw [Nat.add_zero] at p0
      have HAT := hide (fstK_at (unhide HF) hlt)
      clear hr hcc
      generalize ks[i] = X at p0 p1 p2 HAT
      go_upto_region 4 with fail
      obtain ⟨V, hV⟩ : ∃ V, wr.alloc (.cells #[.string X.nm, .int .i64 X.kb, .bool X.tn] 72 (0, 0)) = V := ⟨_, rfl⟩
      have hkv := (Kept.refl [] wr).alloc (.cells #[.string X.nm, .int .i64 X.kb, .bool X.tn] 72 (0, 0))
      have hgv := heap_alloc_new wr (.cells #[.string X.nm, .int .i64 X.kb, .bool X.tn] 72 (0, 0))
      rw [hV] at hkv hgv ⊢
      have HKV := hide ((unhide HKW).trans hkv (by simp))
      have r0 := cell_of_row _ _ 0 _ _ _ hgv
      have r1 := cell_of_row _ _ 1 _ _ _ hgv
      have r2 := cell_of_row _ _ 2 _ _ _ hgv
      simp at r0 r1 r2
      clear hV hkv hgv p0 p1 p2
      by_cases hn : X.nm.data.toList = s.data.toList
      · have hnb : (X.nm.toList == s.toList) = true := by rw [ba_toListS, ba_toListS, hn]; simp
        have HR := hide ((unhide HAT).1 hn)
        have HZ := hide ((unhide HKV).heap (unhide HG) (by simp))
        have b0 := cell_of_row _ _ 0 _ _ _ (unhide HZ)
        have b1 := cell_of_row _ _ 1 _ _ _ (unhide HZ)
        have b2 := cell_of_row _ _ 2 _ _ _ (unhide HZ)
        simp at b0 b1 b2
        have f0 := frozen_of_row _ _ 0 _ _ (unhide HZ)
        have f1 := frozen_of_row _ _ 1 _ _ (unhide HZ)
        have f2 := frozen_of_row _ _ 2 _ _ (unhide HZ)
        clear hn HAT
        go_wp2_with fail
        refine bodyPost_ret (v := .agg #[.string X.nm, .int .i64 X.kb, .bool X.tn]) ?_ rfl ⟨by rw [unhide HR]; rfl, ?_⟩
        · exact results_cell rfl _ _ WA.heap.size _ _ (0, 0) _ rfl (rput3_heap (unhide HZ) _ _ _) Try.underlying72 rfl Try.size_keep
        · exact rput3_kept ((unhide HK).trans (unhide HKV) (by simp)) WA.heap.size (.inr (unhide HSA)) _ _ _
      · have hnb : (X.nm.toList == s.toList) = false := by rw [ba_toListS, ba_toListS]; exact beq_eq_false_iff_ne.2 hn
        have HR := hide ((unhide HAT).2 hn)
        clear hn HAT
        go_wp2_with fail
        refine ⟨⟨i + 1, by omega, by simp, HR, HKV⟩, ?_⟩
        simp [intOf]; omega
    · have hlt' : ¬ (i : Int) < ks.length := by omega
      have hie : i = ks.length := by omega
      subst hie
      rw [List.take_length] at HF
      have HZ := hide ((unhide HKW).heap (unhide HG) (by simp))
      have b0 := cell_of_row _ _ 0 _ _ _ (unhide HZ)
      have b1 := cell_of_row _ _ 1 _ _ _ (unhide HZ)
      have b2 := cell_of_row _ _ 2 _ _ _ (unhide HZ)
      simp at b0 b1 b2
      have f0 := frozen_of_row _ _ 0 _ _ (unhide HZ)
      have f1 := frozen_of_row _ _ 1 _ _ (unhide HZ)
      have f2 := frozen_of_row _ _ 2 _ _ (unhide HZ)
      go_wp2_with fail
      refine bodyPost_ret (v := .agg #[.string ⟨#[]⟩, .int .i64 0, .bool false]) ?_ rfl ⟨by rw [unhide HF]; rfl, ?_⟩
      · exact results_cell rfl _ _ WA.heap.size _ _ (0, 0) _ rfl (rput3_heap (unhide HZ) _ _ _) Try.underlying72 rfl Try.size_keep
      · exact rput3_kept ((unhide HK).trans (unhide HKW) (by simp)) WA.heap.size (.inr (unhide HSA)) _ _ _

theorem ownsB {w : World} {B B' : Nat} {e s n : Nat} {v : Value} {xs : List Value} (hb : B' ≤ B) (h : w.ownsRow B e s v n xs) : w.ownsRow B' e s v n xs := by
  obtain ⟨h1, h2⟩ := h
  refine ⟨h1, ?_⟩
  rcases h2 with h2 | ⟨g, cap, cur, hv, hg, r⟩
  · exact .inl h2
  · exact .inr ⟨g, cap, cur, hv, Nat.le_trans hb hg, r⟩

set_option maxRecDepth 100000 in
set_option maxHeartbeats 2000000 in
theorem rleft_any (K : KeepD) (X : DF) (xv : Value) (sec : Nat) (w : World) (hx : Rd w xv X.bs) (hsy : X.sy ≤ X.bs.length) (hb : X.bs.length ≤ 140737488340000) (hs : 1 ≤ sec) (hs2 : sec ≤ 4096) :
    Calls Try.prog 71 #[.agg #[.string X.nm, xv, .int .i64 (X.sy : Int), .bool X.nd], keV K, .int .i64 sec] w fun e w' => ∃ v, e = .returned v ∧ w'.ownsRow w.heap.size 5 1 v (setF K sec X).bs.length ((setF K sec X).bs.map u8) ∧ Kept [] w w' := by
  obtain ⟨xa, xl, xc, hxv, hxl, hxc, ⟨hxc2, hxl2⟩, _⟩ := id hx
  subst hxv
  subst hxl
  unfold keV
  have kA := (Kept.refl [] w).alloc (.cells #[.string X.nm, .slice xa X.bs.length xc, .int .i64 (X.sy : Int), .bool X.nd] 54 (0, 0))
  have gA := heap_alloc_new w (.cells #[.string X.nm, .slice xa X.bs.length xc, .int .i64 (X.sy : Int), .bool X.nd] 54 (0, 0))
  obtain ⟨WA, hWA⟩ : ∃ W, w.alloc (.cells #[.string X.nm, .slice xa X.bs.length xc, .int .i64 (X.sy : Int), .bool X.nd] 54 (0, 0)) = W := ⟨_, rfl⟩
  rw [hWA] at kA gA
  have HWA := hide hWA
  have kB := (Kept.refl [] WA).alloc (.cells #[.string K.nm, .int .i64 K.kb, .bool K.tn] 72 (0, 0))
  have gB := heap_alloc_new WA (.cells #[.string K.nm, .int .i64 K.kb, .bool K.tn] 72 (0, 0))
  obtain ⟨WB, hWB⟩ : ∃ W, WA.alloc (.cells #[.string K.nm, .int .i64 K.kb, .bool K.tn] 72 (0, 0)) = W := ⟨_, rfl⟩
  rw [hWB] at kB gB
  have HWB := hide hWB
  have HK := hide (kA.trans kB (by simp))
  have HGA := hide (kB.heap gA (by simp))
  have a1 := cell_of_row _ _ 1 _ _ _ (unhide HGA)
  have a2 := cell_of_row _ _ 2 _ _ _ (unhide HGA)
  have b1 := cell_of_row _ _ 1 _ _ _ gB
  have b2 := cell_of_row _ _ 2 _ _ _ gB
  simp at a1 a2 b1 b2
  obtain ⟨m, hm⟩ : ∃ m, X.bs.length = X.sy + m := ⟨X.bs.length - X.sy, by omega⟩
  have hq0 : 0 ≤ wtn K.kb m ∧ wtn K.kb m ≤ m := by unfold wtn; omega
  obtain ⟨q, hq⟩ : ∃ q : Nat, wtn K.kb m = q := ⟨(wtn K.kb m).toNat, by omega⟩
  have hqm : q ≤ m := by omega
  have hN : setN K X = X.sy + q := by unfold setN; rw [show ((X.bs.length : Int) - X.sy) = (m : Int) by omega, hq]; simp
  have HF := hide (fun W => by
    have h9 := rwithin_any K.kb m W (by omega)
    rw [hq] at h9
    exact h9)
  obtain ⟨M, hM⟩ : ∃ M, X.sy + q = M := ⟨_, rfl⟩
  have HT := hide (fun W (k : Kept [] WB W) => by
    have h9 := twin_any (.slice xa (X.sy + q) xc) (X.bs.take (X.sy + q)) W (Rd.take0 ((hx.old (unhide HK) (by simp)).old k (by simp)) (by omega))
    rw [show (X.bs.take (X.sy + q)).length = X.sy + q by rw [List.length_take]; omega, hM] at h9
    exact h9)
  have hw1 : wrap64 ((X.bs.length : Int) - (X.sy : Int)) = (m : Int) := by unfold wrap64; omega
  have hw2 : IntKind.i64.wrap ((X.bs.length : Int) - (X.sy : Int)) = (m : Int) := by rw [show ((X.bs.length : Int) - X.sy) = (m : Int) by omega, IntKind.wrap_i64]; omega
  have hw3 : (X.sy : Int) + (q : Int) = (M : Int) := by omega
  have HNN := hide (hN.trans hM)
  have hML : M ≤ X.bs.length := by omega
  have hMc : M ≤ xc := by omega
  have hqL : (decide (q < m)) = decide (M < X.bs.length) := by rw [decide_eq_decide]; omega
  have hqL2 : (q < m) = (M < X.bs.length) := by rw [eq_iff_iff]; omega
  have HQL := hide hqL2
  obtain ⟨KT, hKT⟩ : ∃ b, K.tn = b := ⟨_, rfl⟩
  rw [hKT] at b2 HWB
  have HKT := hide hKT
  clear hWA hWB kA kB gA gB hx hsy hm hN hq hq0 hM hqL hqL2
  rw [hKT]
  clear hKT
  obtain ⟨L, hL⟩ : ∃ L, X.bs.length = L := ⟨_, rfl⟩
  have HL := hide hL
  rw [hL] at a1 hw1 hw2 hML hb HWA hxc hxl2 HQL
  rw [hL]
  clear hL
  go_enter Try.func71, Try.ntmps71
  go_wp2_with (first | (rw [unhide HWA]) | (rw [unhide HWB]) | fail)
  refine Calls.mono (unhide HF _) ?_
  rintro e w1 ⟨rfl, hw1e⟩
  rw [hw1e]
  clear hw1e w1
  go_wp2_with fail
  refine Calls.mono (unhide HT _ (Kept.refl _ _)) ?_
  rintro e w2 ⟨rfl, k2, hh2⟩
  have HK2 := hide k2
  have HB2 := hide b2
  clear b2
  have HBM := hide (by rw [List.length_take, unhide HL]; omega : (X.bs.take M).length = M)
  have HO := hide (by have h9 := owns_fresh (base := WB.heap.size) hh2 (by rw [unhide HBM]; omega) (Nat.le_refl _); rw [unhide HBM] at h9; exact h9 : w2.ownsRow WB.heap.size 5 1 (.slice (some ⟨WB.heap.size, 0, none⟩) M M) M ((X.bs.take M).map u8))
  clear k2 hh2 a1 a2 b1
  obtain ⟨T, hT⟩ : ∃ T, (if KT = true ∧ M < L then tse M sec else 0) = T := ⟨_, rfl⟩
  have HFIN := hide (by
    unfold setF
    rw [unhide HNN, unhide HKT, unhide HL, ← hT]
    by_cases ht : KT = true ∧ M < L
    · rw [if_pos ht, if_pos ht]
    · rw [if_neg ht, if_neg ht]; simp : (setF K sec X).bs = X.bs.take M ++ List.replicate T 0)
  have hTb : T ≤ 4096 := by
    rw [← hT]
    have := tse_le (p := M) hs
    split <;> omega
  have HTT := hide hT
  have h0 : ((sec : Int) == 0) = false := by simp; omega
  clear hT
  go_wp2_with fail
  go_loopw [9] (fun t9 wr => ∃ (j N1 : Nat) (ao1 : Option Addr) (cap1 : Nat), j ≤ T ∧ Hid (N1 = M + j) ∧ t9 = .slice ao1 N1 cap1 ∧ Hid (wr.ownsRow WB.heap.size 5 1 (.slice ao1 N1 cap1) N1 ((X.bs.take M ++ List.replicate j 0).map Go.Proofs.Ytlopdlcepmmjdaa.u8)) ∧ Hid (Kept [] WB wr)) (fun t _ => M + T - lenV t)
  case atStart => exact ⟨0, M, _, _, Nat.zero_le _, hide rfl, rfl, hide (by rw [List.replicate_zero, List.append_nil]; exact unhide HO), HK2⟩
  case round =>
    obtain ⟨j, N1, ao1, cap1, hj, HN1, rfl, HO1, HKW⟩ := hrel
    have b2 := (unhide HKW).cell (unhide HB2) (by simp)
    by_cases hlt : j < T
    · have ht : KT = true ∧ M < L := by
        by_cases h9 : KT = true ∧ M < L
        · exact h9
        · have := unhide HTT; rw [if_neg h9] at this; omega
      have hTe : T = tse M sec := by have := unhide HTT; rw [if_pos ht] at this; exact this.symm
      obtain ⟨rfl, hML2⟩ := ht
      have hqm2 : (q : Int) < (m : Int) := by have h9 : q < m := by rw [unhide HQL]; exact hML2
                                              omega
      have hr : ((N1 : Int) % (sec : Int) != 0) = true := by
        have h9 := tse_lt hs (hTe ▸ hlt)
        rw [← unhide HN1] at h9
        simp
        omega
      have hrs : Rd (wr.alloc (.cells #[.int .u8 0] 5)) (.slice (some ⟨wr.heap.size, 0, none⟩) 1 1) [0] := rd_lit (heap_alloc_new wr _) rfl (by simp) 1 rfl (by omega)
      have HRs := hide hrs
      have HPL := hide (by have h8 := unhide HN1; rw [List.length_append, unhide HBM, List.length_replicate]; omega : (X.bs.take M ++ List.replicate j 0).length = N1)
      have HO' := hide (by rw [unhide HPL]; exact unhide HO1 : wr.ownsRow WB.heap.size 5 1 (.slice ao1 N1 cap1) (X.bs.take M ++ List.replicate j 0).length ((X.bs.take M ++ List.replicate j 0).map Go.Proofs.Ytlopdlcepmmjdaa.u8))
      have hsz := (unhide HKW).size
      have hnb : N1 ≤ 140737488350000 := by have h8 := unhide HN1; omega
      clear hrs hTe hML2
      go_wp2_with (at_builtin; go_must (refine wpList_appendAll rfl (.tmp 42) (.tmp 43) rfl rfl _ WB.heap.size (.slice ao1 N1 cap1) (X.bs.take M ++ List.replicate j 0) [0] _ 1 1 (by exact (unhide HO').alloc _) (by exact unhide HRs) (by rw [unhide HPL]; simp; omega) (by simp; omega) rfl rfl ?_; intro ao2 cap2 w3 HO2 HG2 HA2; rw [unhide HPL] at HO2 HA2 ⊢; simp only [List.length_cons, List.length_nil, Nat.zero_add] at HO2 HG2 HA2))
      have hk2 := ((unhide HKW).alloc (.cells #[.int .u8 0] 5)).grown (unhide HG2) (by intro j hj; right; exact ((unhide HO1).lt j hj).1)
      have HK3 := hide hk2
      clear hk2
      go_wp2
      go_roundw
      case rel => exact ⟨j + 1, N1 + 1, ao2, cap2, by omega, hide (by have := unhide HN1; omega), by simp, hide (by have h5 := unhide HO2; rw [List.append_assoc, show List.replicate j 0 ++ [0] = List.replicate (j + 1) 0 from (List.replicate_succ' ..).symm, List.length_append, List.length_replicate, ← Nat.add_assoc, show (X.bs.take M).length + j = N1 from by have h6 := unhide HPL; rw [List.length_append, List.length_replicate] at h6; exact h6] at h5; exact h5), HK3⟩
      case measure => simp [lenV]; have := unhide HN1; omega
    · have hje : j = T := by omega
      subst hje
      have HFF := hide (by
        refine ⟨_, rfl, ?_, (unhide HK).trans (unhide HKW) (by simp)⟩
        rw [unhide HFIN]
        have h9 := unhide HO1
        rw [show N1 = (X.bs.take M ++ List.replicate j 0).length by rw [List.length_append, unhide HBM, List.length_replicate]; exact unhide HN1] at h9 ⊢
        exact ownsB (unhide HK).size h9 : ∃ v, Ending.returned (.slice ao1 N1 cap1) = .returned v ∧ wr.ownsRow w.heap.size 5 1 v (setF K sec X).bs.length ((setF K sec X).bs.map Go.Proofs.Ytlopdlcepmmjdaa.u8) ∧ Kept [] w wr)
      by_cases hqm2 : (q : Int) < (m : Int)
      · cases KT
        · go_wp2_with fail
          go_ret
          exact unhide HFF
        · have hTe : j = tse M sec := by
            have h9 := unhide HTT
            rw [if_pos ⟨rfl, by rw [← unhide HQL]; omega⟩] at h9
            exact h9.symm
          have hr : ((N1 : Int) % (sec : Int) != 0) = false := by
            have h9 := tse_at (p := M) hs
            rw [← hTe, ← unhide HN1] at h9
            simp
            omega
          clear hTe
          go_wp2_with fail
          go_ret
          exact unhide HFF
      · go_wp2_with fail
        go_ret
        exact unhide HFF
end Go.Proofs.Ytlopdlcepmmjdaa
