import Derived.Test.YtecadmldnjlibaaDoorTopC
import Derived.Test.YtecadmldnjlibaaDoorTopA
import Derived.Test.YtecadmldnjlibaaDoorTopB
import Derived.Test.YtecadmldnjlibaaDoorSSt
import Derived.Deep.AppendLies
import Derived.Deep.DeepAppendRoom
import Derived.ArgAppend
import Derived.Test.YtecadmldnjlibaaDoorRowz
import Derived.Deep.RegionHeld3
namespace Go.Proofs.YtecadmldnjlibaaDoor
open Go.RowKit Go.BigFrame
set_option linter.unusedVariables false
set_option linter.unusedSimpArgs false

theorem wrM (y : Int) : IntKind.u64.wrap y = y % 18446744073709551616 := by simp [IntKind.wrap, IntKind.signed, IntKind.bits]

set_option maxRecDepth 100000 in
set_option maxHeartbeats 1000000 in
theorem msplit_any (lo hi : Nat) (w : World) (h2 : 2 ≤ hi - lo) (hn : hi < 18446744073709551616) :
    Calls Tryd.prog 55 #[.int .u64 lo, .int .u64 hi] w fun e w' => e = .returned (.int .u64 ((lo + belT (hi - lo) : Nat) : Int)) ∧ Kept [] w w' := by
  obtain ⟨n, hn1⟩ : ∃ n, hi - lo = n := ⟨_, rfl⟩
  rw [hn1] at h2 ⊢
  have hb := bitLen_log (n - 1) (by omega) (by omega)
  have hl : (n - 1).log2 < 64 := (Nat.log2_lt (by omega)).2 (by omega)
  have hlt := belT_lt h2
  obtain ⟨S, hS⟩ : ∃ S, belT n = S := ⟨_, rfl⟩
  rw [hS] at hlt ⊢
  unfold belT at hS
  have hsub : IntKind.u64.wrap ((hi : Int) - (lo : Int)) = (n : Int) := by rw [wrM]; omega
  have hsub1 : IntKind.u64.wrap ((n : Int) - 1) = ((n - 1 : Nat) : Int) := by rw [wrM]; omega
  have hadd : IntKind.u64.wrap ((lo : Int) + (S : Int)) = ((lo + S : Nat) : Int) := by rw [wrM]; omega
  have HLE := hide (len64_any (n - 1) w (by omega))
  rw [hb] at HLE
  obtain ⟨m, hm⟩ : ∃ m, (n - 1).log2 = m := ⟨_, rfl⟩
  rw [hm] at hl HLE hS
  obtain ⟨n1, hn2⟩ : ∃ n1, n - 1 = n1 := ⟨_, rfl⟩
  rw [hn2] at hsub1 HLE
  obtain ⟨T, hT⟩ : ∃ T, lo + S = T := ⟨_, rfl⟩
  rw [hT] at hadd ⊢
  clear hm hb hn1 hn2 hT h2 hlt hn
  have HP := hide hS
  have q2 : wrap64 (((m + 1 : Nat) : Int) - 1) = (m : Int) := by unfold wrap64; omega
  clear hS
  go_enter Tryd.func55, Tryd.ntmps55
  go_wp2_with (first | simp only [hsub] | simp only [hsub1])
  refine (unhide HLE).mono ?_
  rintro e w1 ⟨rfl, k1⟩
  have HK1 := hide k1
  clear k1
  go_wp2_with (first | simp only [hadd] | (refine wpList_shl1 rfl 49 3 (.tmp 11) rfl m hl (by simp [Act.eval, q2]) ?_; rw [unhide HP]))
  go_ret
  exact ⟨rfl, unhide HK1⟩

theorem wp_callD {o : Oper} {a : Act} {w : World} {K : Act → World → Prop} {Q : Exit → Act → World → Prop} {f : FuncId} {c : Operand} {xs : Array Operand} {ts : Array TypeId} (ho : o.op = .call { callee := .value c, args := xs, argTypes := ts })
    (cap : Array Value) (hc0 : a.eval c = .func (.func f) #[] cap)
    (hcl : ∀ args W, (callFunc f args).run Tryd.prog W = .ok (.enter f args) W) (us : List Value) (he : xs.toList.map a.eval = us) {R : Ending → World → Prop}
    (hc : Calls Tryd.prog f (us.toArray ++ cap) w R) (h : ∀ e w', R e w' → ∃ v, e = .returned v ∧ K (a.put o.dst v) w') : o.wp Tryd.prog a w K Q := by
  have he2 : xs.map a.eval = us.toArray := by rw [← he]; cases xs; simp only [List.map_toArray]
  unfold Oper.wp execOp
  simp only [ho]
  simp only [resolve, invoke, hc0, he2, Sem.run_bind, Sem.run_pure, Result.andThen_ok, hcl]
  simp [Deferred.ofValue, hcl, go_sem]
  refine hc.mono ?_
  intro e w2 h2
  obtain ⟨v, rfl, h3⟩ := h e w2 h2
  exact h3

def cellsS (ss : List (Nat × Nat)) : List Value := ss.flatMap fun s => [.int .u64 (s.1 : Int), .int .u64 (s.2 : Int)]
theorem cellsS_app (a b : List (Nat × Nat)) : cellsS (a ++ b) = cellsS a ++ cellsS b := by simp [cellsS]
theorem cellsS_get : ∀ (ss : List (Nat × Nat)) (i : Nat) (h : i < ss.length), (cellsS ss)[2 * i]? = some (.int .u64 (ss[i].1 : Int)) ∧ (cellsS ss)[2 * i + 1]? = some (.int .u64 (ss[i].2 : Int))
  | [], i, h => by simp at h
  | s :: r, 0, h => ⟨rfl, rfl⟩
  | s :: r, i + 1, h => by
    have := cellsS_get r i (by simpa using h)
    have e : cellsS (s :: r) = [.int .u64 (s.1 : Int), .int .u64 (s.2 : Int)] ++ cellsS r := by simp [cellsS]
    rw [e, show 2 * (i + 1) = 2 + 2 * i by omega, show 2 + 2 * i + 1 = 2 + (2 * i + 1) by omega]
    rw [List.getElem?_append_right (by simp), List.getElem?_append_right (by simp)]
    simpa [Nat.add_sub_cancel_left] using this
theorem Tryd.infoS : (Tryd.prog.info? 92).map (fun i => (i.zero, i.size, i.bytes)) = some (some (.agg #[.int .u64 0, .int .u64 0]), 2, 16) := by kernel_rfl
/-- One range more. -/
theorem pushSp (w : World) (base : Nat) (v : Value) (ss : List (Nat × Nat)) (x y : Nat) (H : Nat) (h : w.ownsRow base 92 2 v ss.length (cellsS ss)) (hnew : w.heap[H]? = some (.cells #[.int .u64 (x : Int), .int .u64 (y : Int)] 92 (0, 0))) (hl : ss.length + 1 ≤ 1000000000000) (hb : base ≤ w.heap.size) :
    ∃ g cap w1, (Builtin.append_ #[80, 80] 80 #[v, .slice (some ⟨H, 0, none⟩) 1 1]).run Tryd.prog w = .ok (.slice (some ⟨g, 0, none⟩) (ss.length + 1) cap) w1 ∧
      w1.ownsRow base 92 2 (.slice (some ⟨g, 0, none⟩) (ss.length + 1) cap) (ss ++ [(x, y)]).length (cellsS (ss ++ [(x, y)])) ∧ w.grownBy w1 v.ownBlock := by
  obtain ⟨i0, hi, hz0, hz1, hz2⟩ := info_parts Tryd.infoS
  obtain ⟨g, cap, w1, hr, hown, hgrow, hat, hlt⟩ := run_append_lies (P := Tryd.prog) w 80 80 base 92 i0 (.agg #[.int .u64 0, .int .u64 0]) 2 16 Tryd.underlying80 hi hz0 hz1 hz2 rfl (by decide)
    v ss.length (cellsS ss) h ⟨H, 0, none⟩ 1 1 [.int .u64 (x : Int), .int .u64 (y : Int)] rfl (World.news_of_block hnew) (by intro u hu; simp at hu; rcases hu with rfl | rfl <;> rfl) (by decide) (by unfold maxLen; omega) (by omega) hb _ rfl
  refine ⟨g, cap, w1, hr, ?_, hgrow⟩
  rw [cellsS_app, List.length_append]
  exact hown
theorem wpList_pushSp {ops : Array Oper} {rest : List Oper} {o : Oper} {a : Act} {Q : Exit → Act → World → Prop} (hgd : o.guard = none) (s x : Operand)
    (ho : o.op = .call { callee := .builtin .append, args := #[s, x], argTypes := #[80, 80] }) (hty : o.type = 80)
    (w : World) (base : Nat) (v : Value) (ss : List (Nat × Nat)) (p q : Nat) (H : Nat) (h : w.ownsRow base 92 2 v ss.length (cellsS ss)) (hnew : w.heap[H]? = some (.cells #[.int .u64 (p : Int), .int .u64 (q : Int)] 92 (0, 0))) (hl : ss.length + 1 ≤ 1000000000000) (hb : base ≤ w.heap.size)
    (hs : a.eval s = v) (hx : a.eval x = .slice (some ⟨H, 0, none⟩) 1 1)
    (hK : ∀ g cap w1, Hid (w1.ownsRow base 92 2 (.slice (some ⟨g, 0, none⟩) (ss.length + 1) cap) (ss ++ [(p, q)]).length (cellsS (ss ++ [(p, q)]))) → Hid (w.grownBy w1 v.ownBlock) →
      wpList Tryd.prog ops Q rest (a.put o.dst (.slice (some ⟨g, 0, none⟩) (ss.length + 1) cap)) w1) :
    wpList Tryd.prog ops Q (o :: rest) a w := by
  obtain ⟨g, cap, w1, hrun, h2, h3⟩ := pushSp w base v ss p q H h hnew hl hb
  refine wpList_plain hgd fun K hK' => ?_
  unfold Oper.wp execOp
  simp only [ho, hty, resolve, invoke, builtin, Sem.run_bind, Sem.run_pure, Result.andThen_ok, List.map_toArray, List.map_cons, List.map_nil, hs, hx, hrun]
  exact hK' _ _ (hK g cap w1 h2 h3)

/-- The list of ranges behind a captured variable. -/
structure Lst (W0 : World) (bl : Nat) (ss : List (Nat × Nat)) (w : World) (v : Value) : Prop where
  kept : Kept [bl] W0 w
  row : w.heap[bl]? = some (.cells #[v] 80 (0, 0))
  own : w.ownsRow W0.heap.size 92 2 v ss.length (cellsS ss)
  lt : bl < W0.heap.size
theorem Lst.old {W0 w w' : World} {bl : Nat} {ss : List (Nat × Nat)} {v : Value} (h : Lst W0 bl ss w v) (k : Kept [] w w') : Lst W0 bl ss w' v :=
  ⟨h.kept.trans k (by simp), k.heap h.row (by simp), k.owns h.own (by simp), h.lt⟩
theorem Lst.push {W0 w w1 : World} {bl : Nat} {ss : List (Nat × Nat)} {v u : Value} {x y : Nat} (h : Lst W0 bl ss w v) {ss' : List (Nat × Nat)} (own : w1.ownsRow W0.heap.size 92 2 u ss'.length (cellsS ss')) (gr : w.grownBy w1 v.ownBlock) :
    Lst W0 bl ss' (w1.setCell ⟨bl, 0, none⟩ u) u ∧ w1.cell? ⟨bl, 0, none⟩ = some v ∧ w1.heap[bl]? = some (.cells #[v] 80 (0, 0)) := by
  have hv : ∀ k, v.ownBlock = some k → k ≠ bl := by
    intro k hk e
    have := (h.own.lt k hk).1
    have := h.lt
    omega
  have k1 : Kept v.ownBlock.toList w w1 := (Kept.refl _ w).grown gr (by intro k hk; left; simp [hk])
  have r1 : w1.heap[bl]? = some (.cells #[v] 80 (0, 0)) := k1.heap h.row (by intro hm; simp at hm; exact hv bl hm rfl)
  have k3 : Kept [bl] W0 w1 := h.kept.grown gr (by intro k hk; right; exact (h.own.lt k hk).1)
  have k4 := (Kept.refl [bl] w1).setCell (p := ⟨bl, 0, none⟩) (Or.inl (by simp)) u
  refine ⟨⟨k3.setCell (p := ⟨bl, 0, none⟩) (Or.inl (by simp)) u, ?_, ?_, h.lt⟩, ?_, r1⟩
  · have h9 := heap_setCell_same w1 bl 0 _ 80 u r1
    simpa using h9
  · refine k4.owns own ?_
    intro k hk
    have := (own.lt k hk).1
    have := h.lt
    simp
    omega
  · have h9 := cell_of_row _ _ 0 _ _ _ r1
    simpa using h9
end Go.Proofs.YtecadmldnjlibaaDoor
namespace Go.Proofs.YtecadmldnjlibaaDoor
open Go.RowKit Go.BigFrame
set_option linter.unusedVariables false
set_option linter.unusedSimpArgs false

def pathV (bi bc bl : Nat) : Value := .func (.func 54) #[] #[.pointer (some ⟨bi, 0, none⟩), .pointer (some ⟨bc, 0, none⟩), .pointer (some ⟨bl, 0, none⟩)]
structure PathW (bi bc i : Nat) (bl : Nat) (W0 w : World) : Prop where
  hc : w.heap[bc]? = some (.cells #[pathV bi bc bl] 93 (0, 0))
  hi : w.heap[bi]? = some (.cells #[.int .u64 i] 49 (0, 0))
  lt : bc < W0.heap.size ∧ bi < W0.heap.size
  ne : bc ≠ bl ∧ bi ≠ bl
theorem PathW.kept {bi bc i bl : Nat} {W0 w w' : World} (h : PathW bi bc i bl W0 w) (hl : W0.heap.size ≤ w.heap.size) {L : List Nat} (k : Kept L w w') (hL : ∀ b ∈ L, b = bl ∨ W0.heap.size ≤ b) : PathW bi bc i bl W0 w' := by
  refine ⟨k.heap h.hc ?_, k.heap h.hi ?_, h.lt, h.ne⟩
  · intro hm; rcases hL _ hm with e | e
    · exact h.ne.1 e
    · have := h.lt.1; omega
  · intro hm; rcases hL _ hm with e | e
    · exact h.ne.2 e
    · have := h.lt.2; omega

theorem Tryd.callPath : ∀ args W, (callFunc 54 args).run Tryd.prog W = .ok (.enter 54 args) W := by
  intro args W
  exact Tryd.call54 args W

set_option maxRecDepth 100000 in
set_option maxHeartbeats 1000000 in
theorem pathC_any (W0 : World) (bi bc bl i : Nat) : ∀ (c lo hi : Nat) (ss : List (Nat × Nat)) (v : Value) (w : World), lo < hi → hi - lo ≤ 2 ^ c → hi < 18446744073709551616 → ss.length + c ≤ 1000000 → Lst W0 bl ss w v → PathW bi bc i bl W0 w →
    Calls Tryd.prog 54 #[.int .u64 lo, .int .u64 hi, .pointer (some ⟨bi, 0, none⟩), .pointer (some ⟨bc, 0, none⟩), .pointer (some ⟨bl, 0, none⟩)] w fun e w' => e = .returned (.tuple #[]) ∧ ∃ u, Lst W0 bl (ss ++ pathF i c lo hi) w' u ∧ PathW bi bc i bl W0 w' := by
  intro c
  induction c with
  | zero =>
    intro lo hi ss v w h1 h2 h3 h4 HL HP
    have hsub : IntKind.u64.wrap ((hi : Int) - (lo : Int)) = 1 := by rw [wrM]; simp at h2; omega
    go_enter Tryd.func54, Tryd.ntmps54
    have HL := hide HL
    have HP := hide HP
    go_wp2_with (first | simp only [hsub])
    exact ⟨rfl, _, results_none rfl _ _ _, rfl, v, by rw [pathF, List.append_nil]; exact unhide HL, unhide HP⟩
  | succ c ih =>
    intro lo hi ss v w h1 h2 h3 h4 HL HP
    have HL := hide HL
    have HP := hide HP
    have HIH := hide ih
    have HS := hide h4
    clear ih h4
    by_cases hone : hi - lo ≤ 1
    · have hsub : IntKind.u64.wrap ((hi : Int) - (lo : Int)) = 1 := by rw [wrM]; omega
      clear h2
      go_enter Tryd.func54, Tryd.ntmps54
      go_wp2_with (first | simp only [hsub])
      exact ⟨rfl, _, results_none rfl _ _ _, rfl, v, by rw [pathF_one i _ hone, List.append_nil]; exact unhide HL, unhide HP⟩
    · have hsub : IntKind.u64.wrap ((hi : Int) - (lo : Int)) = ((hi - lo : Nat) : Int) := by rw [wrM]; omega
      have hne : ¬ ((hi - lo : Nat) : Int) = 1 := by omega
      have HSP := hide (msplit_any lo hi w (by omega) h3)
      have hb := belT_lt (n := hi - lo) (by omega)
      have hb2 := belT_half (n := hi - lo) (c := c) (by omega) h2
      have HPL := hide (fun h => pathF_l (i := i) (c := c) (lo := lo) (hi := hi) hone h)
      have HPR := hide (fun h => pathF_r (i := i) (c := c) (lo := lo) (hi := hi) hone h)
      obtain ⟨m, hm⟩ : ∃ m, lo + belT (hi - lo) = m := ⟨_, rfl⟩
      rw [hm] at HSP HPL HPR
      have hm1 : lo < m := by omega
      have hm2 : m < hi := by omega
      have HB := hide (by omega : m - lo ≤ 2 ^ c ∧ hi - m ≤ 2 ^ c)
      have HSZ := hide (unhide HL).kept.size
      obtain ⟨n, hn⟩ : ∃ n, hi - lo = n := ⟨_, rfl⟩
      rw [hn] at hsub hne
      clear hb hb2 hone h2 hm hn
      go_enter Tryd.func54, Tryd.ntmps54
      go_wp2_with (first | simp only [hsub])
      refine (unhide HSP).mono ?_
      rintro e w1 ⟨rfl, k1⟩
      have HL1 := hide ((unhide HL).old k1)
      have HP1 := hide ((unhide HP).kept (unhide HSZ) k1 (by simp))
      have HSZ1 := hide (unhide HL1).kept.size
      clear HL HP k1 HSP HSZ
      have ci := cell_of_row _ _ 0 _ _ _ (unhide HP1).hi
      have cc := cell_of_row _ _ 0 _ _ _ (unhide HP1).hc
      unfold pathV at cc
      simp at ci cc
      by_cases him : i < m
      · have him' : (i : Int) < (m : Int) := by omega
        have HR1 := hide (unhide HIH lo m ss v w1 (by omega) (unhide HB).1 (by omega) (by have := unhide HS; omega) (unhide HL1) (unhide HP1))
        have HSL := hide (by have := unhide HS; have := pathF_len i c lo m; rw [List.length_append]; omega : (ss ++ pathF i c lo m).length + 1 ≤ 1000000000000)
        have HEQ := hide (unhide HPL him)
        clear HIH HB HPL HPR
        go_wp2_with fail
        refine (unhide HR1).mono ?_
        rintro e w2 ⟨rfl, u, l2, p2⟩
        have HL2 := hide (l2.old ((Kept.refl [] w2).alloc (.cells #[.int .u64 (m : Int), .int .u64 (hi : Int)] 92)))
        have HP2 := hide (p2.kept l2.kept.size ((Kept.refl [] w2).alloc (.cells #[.int .u64 (m : Int), .int .u64 (hi : Int)] 92)) (by simp))
        have HN2 := hide (heap_alloc_new w2 (.cells #[.int .u64 (m : Int), .int .u64 (hi : Int)] 92))
        have cl := cell_of_row _ _ 0 _ _ _ l2.row
        simp at cl
        have HBB := hide (unhide HL2).kept.size
        clear l2 p2 HR1 HL1 HP1 ci cc HSZ1
        obtain ⟨ts, hts⟩ : ∃ ts, ss ++ pathF i c lo m = ts := ⟨_, rfl⟩
        rw [hts] at HL2 HSL
        have HTS := hide hts
        clear hts
        go_wp2_with ((at_builtin; refine wpList_pushSp rfl (.tmp 22) (.tmp 26) rfl rfl _ W0.heap.size u ts m hi w2.heap.size (unhide HL2).own (unhide HN2) (unhide HSL) (unhide HBB) rfl rfl ?_; intro g cap w3 HO3 HG3; have HLP := hide ((unhide HL2).push (x := m) (y := hi) (unhide HO3) (unhide HG3)); have cb := (unhide HLP).2.1; have zb := frozen_of_row _ _ 0 _ _ (unhide HLP).2.2; have HKW := hide ((Kept.refl u.ownBlock.toList (w2.alloc (.cells #[.int .u64 (m : Int), .int .u64 (hi : Int)] 92))).grown (unhide HG3) (by intro k hk; left; simp [hk])); clear HO3 HG3))
        refine ⟨rfl, _, results_none rfl _ _ _, rfl, _, by rw [unhide HEQ, ← List.append_assoc, unhide HTS]; exact (unhide HLP).1, ?_⟩
        refine ((unhide HP2).kept (unhide HBB) (unhide HKW) ?_).kept (Nat.le_trans (unhide HBB) (unhide HKW).size) ((Kept.refl [bl] w3).setCell (p := ⟨bl, 0, none⟩) (Or.inl (by simp)) _) ?_
        · intro b hb
          right
          exact ((unhide HL2).own.lt b (by simpa using hb)).1
        · intro b hb
          left
          simpa using hb
      · have him' : ¬ (i : Int) < (m : Int) := by omega
        have HR1 := hide (unhide HIH m hi ss v w1 (by omega) (unhide HB).2 (by omega) (by have := unhide HS; omega) (unhide HL1) (unhide HP1))
        have HSL := hide (by have := unhide HS; have := pathF_len i c m hi; rw [List.length_append]; omega : (ss ++ pathF i c m hi).length + 1 ≤ 1000000000000)
        have HEQ := hide (unhide HPR him)
        clear HIH HB HPL HPR
        go_wp2_with fail
        refine (unhide HR1).mono ?_
        rintro e w2 ⟨rfl, u, l2, p2⟩
        have HL2 := hide (l2.old ((Kept.refl [] w2).alloc (.cells #[.int .u64 (lo : Int), .int .u64 (m : Int)] 92)))
        have HP2 := hide (p2.kept l2.kept.size ((Kept.refl [] w2).alloc (.cells #[.int .u64 (lo : Int), .int .u64 (m : Int)] 92)) (by simp))
        have HN2 := hide (heap_alloc_new w2 (.cells #[.int .u64 (lo : Int), .int .u64 (m : Int)] 92))
        have cl := cell_of_row _ _ 0 _ _ _ l2.row
        simp at cl
        have HBB := hide (unhide HL2).kept.size
        clear l2 p2 HR1 HL1 HP1 ci cc HSZ1
        obtain ⟨ts, hts⟩ : ∃ ts, ss ++ pathF i c m hi = ts := ⟨_, rfl⟩
        rw [hts] at HL2 HSL
        have HTS := hide hts
        clear hts
        go_wp2_with ((at_builtin; refine wpList_pushSp rfl (.tmp 32) (.tmp 36) rfl rfl _ W0.heap.size u ts lo m w2.heap.size (unhide HL2).own (unhide HN2) (unhide HSL) (unhide HBB) rfl rfl ?_; intro g cap w3 HO3 HG3; have HLP := hide ((unhide HL2).push (x := lo) (y := m) (unhide HO3) (unhide HG3)); have cb := (unhide HLP).2.1; have zb := frozen_of_row _ _ 0 _ _ (unhide HLP).2.2; have HKW := hide ((Kept.refl u.ownBlock.toList (w2.alloc (.cells #[.int .u64 (lo : Int), .int .u64 (m : Int)] 92))).grown (unhide HG3) (by intro k hk; left; simp [hk])); clear HO3 HG3))
        refine ⟨rfl, _, results_none rfl _ _ _, rfl, _, by rw [unhide HEQ, ← List.append_assoc, unhide HTS]; exact (unhide HLP).1, ?_⟩
        refine ((unhide HP2).kept (unhide HBB) (unhide HKW) ?_).kept (Nat.le_trans (unhide HBB) (unhide HKW).size) ((Kept.refl [bl] w3).setCell (p := ⟨bl, 0, none⟩) (Or.inl (by simp)) _) ?_
        · intro b hb
          right
          exact ((unhide HL2).own.lt b (by simpa using hb)).1
        · intro b hb
          left
          simpa using hb
end Go.Proofs.YtecadmldnjlibaaDoor
namespace Go.Proofs.YtecadmldnjlibaaDoor
open Go.RowKit Go.BigFrame
set_option linter.unusedVariables false
set_option linter.unusedSimpArgs false

def seamV (bi bl bc : Nat) : Value := .func (.func 56) #[] #[.pointer (some ⟨bi, 0, none⟩), .pointer (some ⟨bl, 0, none⟩), .pointer (some ⟨bc, 0, none⟩)]
structure SeamW (bi bc i : Nat) (bl : Nat) (W0 w : World) : Prop where
  hc : w.heap[bc]? = some (.cells #[seamV bi bl bc] 95 (0, 0))
  hi : w.heap[bi]? = some (.cells #[.int .u64 i] 49 (0, 0))
  lt : bc < W0.heap.size ∧ bi < W0.heap.size
  ne : bc ≠ bl ∧ bi ≠ bl
theorem SeamW.kept {bi bc i bl : Nat} {W0 w w' : World} (h : SeamW bi bc i bl W0 w) (hl : W0.heap.size ≤ w.heap.size) {L : List Nat} (k : Kept L w w') (hL : ∀ b ∈ L, b = bl ∨ W0.heap.size ≤ b) : SeamW bi bc i bl W0 w' := by
  refine ⟨k.heap h.hc ?_, k.heap h.hi ?_, h.lt, h.ne⟩
  · intro hm; rcases hL _ hm with e | e
    · exact h.ne.1 e
    · have := h.lt.1; omega
  · intro hm; rcases hL _ hm with e | e
    · exact h.ne.2 e
    · have := h.lt.2; omega

set_option maxRecDepth 100000 in
set_option maxHeartbeats 1000000 in
theorem seamC_end (W0 : World) (bi bc bl m : Nat) (c lo : Nat) (wh : Bool) (ss : List (Nat × Nat)) (v : Value) (w : World) (h4 : ss.length + c ≤ 1000000) (HL : Lst W0 bl ss w v) (HP : SeamW bi bc m bl W0 w) :
    Calls Tryd.prog 56 #[.int .u64 lo, .int .u64 m, .bool wh, .pointer (some ⟨bi, 0, none⟩), .pointer (some ⟨bl, 0, none⟩), .pointer (some ⟨bc, 0, none⟩)] w fun e w' => e = .returned (.tuple #[]) ∧ ∃ u, Lst W0 bl (ss ++ seamF m c lo m wh) w' u ∧ SeamW bi bc m bl W0 w' := by
    have HL := hide HL
    have HP := hide HP
    have HS := hide h4
    clear h4
    have ci := cell_of_row _ _ 0 _ _ _ (unhide HP).hi
    simp at ci
    cases wh with
    | true =>
      go_enter Tryd.func56, Tryd.ntmps56
      go_wp2_with fail
      exact ⟨rfl, _, results_none rfl _ _ _, rfl, v, by rw [seamF_end rfl, if_pos rfl, List.append_nil]; exact unhide HL, unhide HP⟩
    | false =>
      have cl := cell_of_row _ _ 0 _ _ _ (unhide HL).row
      simp at cl
      have HL2 := hide ((unhide HL).old ((Kept.refl [] w).alloc (.cells #[.int .u64 (lo : Int), .int .u64 (m : Int)] 92)))
      have HP2 := hide ((unhide HP).kept (unhide HL).kept.size ((Kept.refl [] w).alloc (.cells #[.int .u64 (lo : Int), .int .u64 (m : Int)] 92)) (by simp))
      have HN2 := hide (heap_alloc_new w (.cells #[.int .u64 (lo : Int), .int .u64 (m : Int)] 92))
      have HBB := hide (unhide HL2).kept.size
      have HSL := hide (by have := unhide HS; omega : ss.length + 1 ≤ 1000000000000)
      clear HL HP
      go_enter Tryd.func56, Tryd.ntmps56
      go_wp2_with ((at_builtin; refine wpList_pushSp rfl (.tmp 15) (.tmp 19) rfl rfl _ W0.heap.size v ss lo m w.heap.size (unhide HL2).own (unhide HN2) (unhide HSL) (unhide HBB) rfl rfl ?_; intro g cap w3 HO3 HG3; have HLP := hide ((unhide HL2).push (x := lo) (y := m) (unhide HO3) (unhide HG3)); have cb := (unhide HLP).2.1; have zb := frozen_of_row _ _ 0 _ _ (unhide HLP).2.2; have HKW := hide ((Kept.refl v.ownBlock.toList (w.alloc (.cells #[.int .u64 (lo : Int), .int .u64 (m : Int)] 92))).grown (unhide HG3) (by intro k hk; left; simp [hk])); clear HO3 HG3))
      refine ⟨rfl, _, results_none rfl _ _ _, rfl, _, by rw [seamF_end rfl]; exact (unhide HLP).1, ?_⟩
      refine ((unhide HP2).kept (unhide HBB) (unhide HKW) ?_).kept (Nat.le_trans (unhide HBB) (unhide HKW).size) ((Kept.refl [bl] w3).setCell (p := ⟨bl, 0, none⟩) (Or.inl (by simp)) _) ?_
      · intro b hb
        right
        exact ((unhide HL2).own.lt b (by simpa using hb)).1
      · intro b hb
        left
        simpa using hb

set_option maxRecDepth 100000 in
set_option maxHeartbeats 1000000 in
theorem seamC_any (W0 : World) (bi bc bl m : Nat) : ∀ (c lo hi : Nat) (wh : Bool) (ss : List (Nat × Nat)) (v : Value) (w : World), lo < m → m ≤ hi → hi - lo ≤ 2 ^ c → hi < 18446744073709551616 → ss.length + c ≤ 1000000 → Lst W0 bl ss w v → SeamW bi bc m bl W0 w →
    Calls Tryd.prog 56 #[.int .u64 lo, .int .u64 hi, .bool wh, .pointer (some ⟨bi, 0, none⟩), .pointer (some ⟨bl, 0, none⟩), .pointer (some ⟨bc, 0, none⟩)] w fun e w' => e = .returned (.tuple #[]) ∧ ∃ u, Lst W0 bl (ss ++ seamF m c lo hi wh) w' u ∧ SeamW bi bc m bl W0 w' := by
  intro c
  induction c with
  | zero =>
    intro lo hi wh ss v w h1 h0 h2 h3 h4 HL HP
    have e : hi = m := by simp at h2; omega
    subst e
    exact seamC_end W0 bi bc bl hi 0 lo wh ss v w h4 HL HP
  | succ c ih =>
    intro lo hi wh ss v w h1 h0 h2 h3 h4 HL HP
    by_cases hone : m = hi
    · subst hone
      exact seamC_end W0 bi bc bl m (c + 1) lo wh ss v w h4 HL HP
    · have HL := hide HL
      have HP := hide HP
      have HIH := hide ih
      have HS := hide h4
      clear ih h4
      have hne : ¬ (m : Int) = (hi : Int) := by omega
      have HSP := hide (msplit_any lo hi w (by omega) h3)
      have hb := belT_lt (n := hi - lo) (by omega)
      have hb2 := belT_half (n := hi - lo) (c := c) (by omega) h2
      have HPL := hide (fun h => seamF_l (m := m) (c := c) (lo := lo) (hi := hi) (wh := wh) hone h)
      have HPR := hide (fun h => seamF_r (m := m) (c := c) (lo := lo) (hi := hi) (wh := wh) hone h)
      obtain ⟨md, hm⟩ : ∃ md, lo + belT (hi - lo) = md := ⟨_, rfl⟩
      rw [hm] at HSP HPL HPR
      have hm1 : lo < md := by omega
      have hm2 : md < hi := by omega
      have HB := hide (by omega : md - lo ≤ 2 ^ c ∧ hi - md ≤ 2 ^ c)
      have HSZ := hide (unhide HL).kept.size
      clear hb hb2 h2 hm
      have ci := cell_of_row _ _ 0 _ _ _ (unhide HP).hi
      simp at ci
      go_enter Tryd.func56, Tryd.ntmps56
      go_wp2_with fail
      refine (unhide HSP).mono ?_
      rintro e w1 ⟨rfl, k1⟩
      have HL1 := hide ((unhide HL).old k1)
      have HP1 := hide ((unhide HP).kept (unhide HSZ) k1 (by simp))
      have HSZ1 := hide (unhide HL1).kept.size
      clear HL HP k1 HSP HSZ ci
      have ci := cell_of_row _ _ 0 _ _ _ (unhide HP1).hi
      have cc := cell_of_row _ _ 0 _ _ _ (unhide HP1).hc
      unfold seamV at cc
      simp at ci cc
      by_cases him : m ≤ md
      · have him' : (m : Int) ≤ (md : Int) := by omega
        have HR1 := hide (unhide HIH lo md wh ss v w1 (by omega) (by omega) (unhide HB).1 (by omega) (by have := unhide HS; omega) (unhide HL1) (unhide HP1))
        have HSL := hide (by have := unhide HS; have := seamF_len m c lo md wh; rw [List.length_append]; omega : (ss ++ seamF m c lo md wh).length + 1 ≤ 1000000000000)
        have HEQ := hide (unhide HPL him)
        clear HIH HB HPL HPR
        go_wp2_with fail
        refine (unhide HR1).mono ?_
        rintro e w2 ⟨rfl, u, l2, p2⟩
        have HL2 := hide (l2.old ((Kept.refl [] w2).alloc (.cells #[.int .u64 (md : Int), .int .u64 (hi : Int)] 92)))
        have HP2 := hide (p2.kept l2.kept.size ((Kept.refl [] w2).alloc (.cells #[.int .u64 (md : Int), .int .u64 (hi : Int)] 92)) (by simp))
        have HN2 := hide (heap_alloc_new w2 (.cells #[.int .u64 (md : Int), .int .u64 (hi : Int)] 92))
        have cl := cell_of_row _ _ 0 _ _ _ l2.row
        simp at cl
        have HBB := hide (unhide HL2).kept.size
        clear l2 p2 HR1 HL1 HP1 ci cc HSZ1
        obtain ⟨ts, hts⟩ : ∃ ts, ss ++ seamF m c lo md wh = ts := ⟨_, rfl⟩
        rw [hts] at HL2 HSL
        have HTS := hide hts
        clear hts
        go_wp2_with ((at_builtin; refine wpList_pushSp rfl (.tmp 32) (.tmp 36) rfl rfl _ W0.heap.size u ts md hi w2.heap.size (unhide HL2).own (unhide HN2) (unhide HSL) (unhide HBB) rfl rfl ?_; intro g cap w3 HO3 HG3; have HLP := hide ((unhide HL2).push (x := md) (y := hi) (unhide HO3) (unhide HG3)); have cb := (unhide HLP).2.1; have zb := frozen_of_row _ _ 0 _ _ (unhide HLP).2.2; have HKW := hide ((Kept.refl u.ownBlock.toList (w2.alloc (.cells #[.int .u64 (md : Int), .int .u64 (hi : Int)] 92))).grown (unhide HG3) (by intro k hk; left; simp [hk])); clear HO3 HG3))
        refine ⟨rfl, _, results_none rfl _ _ _, rfl, _, by rw [unhide HEQ, ← List.append_assoc, unhide HTS]; exact (unhide HLP).1, ?_⟩
        refine ((unhide HP2).kept (unhide HBB) (unhide HKW) ?_).kept (Nat.le_trans (unhide HBB) (unhide HKW).size) ((Kept.refl [bl] w3).setCell (p := ⟨bl, 0, none⟩) (Or.inl (by simp)) _) ?_
        · intro b hb
          right
          exact ((unhide HL2).own.lt b (by simpa using hb)).1
        · intro b hb
          left
          simpa using hb
      · have him' : ¬ (m : Int) ≤ (md : Int) := by omega
        have HR1 := hide (unhide HIH md hi false ss v w1 (by omega) (by omega) (unhide HB).2 (by omega) (by have := unhide HS; omega) (unhide HL1) (unhide HP1))
        have HSL := hide (by have := unhide HS; have := seamF_len m c md hi false; rw [List.length_append]; omega : (ss ++ seamF m c md hi false).length + 1 ≤ 1000000000000)
        have HEQ := hide (unhide HPR him)
        clear HIH HB HPL HPR
        go_wp2_with fail
        refine (unhide HR1).mono ?_
        rintro e w2 ⟨rfl, u, l2, p2⟩
        have HL2 := hide (l2.old ((Kept.refl [] w2).alloc (.cells #[.int .u64 (lo : Int), .int .u64 (md : Int)] 92)))
        have HP2 := hide (p2.kept l2.kept.size ((Kept.refl [] w2).alloc (.cells #[.int .u64 (lo : Int), .int .u64 (md : Int)] 92)) (by simp))
        have HN2 := hide (heap_alloc_new w2 (.cells #[.int .u64 (lo : Int), .int .u64 (md : Int)] 92))
        have cl := cell_of_row _ _ 0 _ _ _ l2.row
        simp at cl
        have HBB := hide (unhide HL2).kept.size
        clear l2 p2 HR1 HL1 HP1 ci cc HSZ1
        obtain ⟨ts, hts⟩ : ∃ ts, ss ++ seamF m c md hi false = ts := ⟨_, rfl⟩
        rw [hts] at HL2 HSL
        have HTS := hide hts
        clear hts
        go_wp2_with ((at_builtin; refine wpList_pushSp rfl (.tmp 42) (.tmp 46) rfl rfl _ W0.heap.size u ts lo md w2.heap.size (unhide HL2).own (unhide HN2) (unhide HSL) (unhide HBB) rfl rfl ?_; intro g cap w3 HO3 HG3; have HLP := hide ((unhide HL2).push (x := lo) (y := md) (unhide HO3) (unhide HG3)); have cb := (unhide HLP).2.1; have zb := frozen_of_row _ _ 0 _ _ (unhide HLP).2.2; have HKW := hide ((Kept.refl u.ownBlock.toList (w2.alloc (.cells #[.int .u64 (lo : Int), .int .u64 (md : Int)] 92))).grown (unhide HG3) (by intro k hk; left; simp [hk])); clear HO3 HG3))
        refine ⟨rfl, _, results_none rfl _ _ _, rfl, _, by rw [unhide HEQ, ← List.append_assoc, unhide HTS]; exact (unhide HLP).1, ?_⟩
        refine ((unhide HP2).kept (unhide HBB) (unhide HKW) ?_).kept (Nat.le_trans (unhide HBB) (unhide HKW).size) ((Kept.refl [bl] w3).setCell (p := ⟨bl, 0, none⟩) (Or.inl (by simp)) _) ?_
        · intro b hb
          right
          exact ((unhide HL2).own.lt b (by simpa using hb)).1
        · intro b hb
          left
          simpa using hb
end Go.Proofs.YtecadmldnjlibaaDoor
namespace Go.Proofs.YtecadmldnjlibaaDoor
open Go.RowKit Go.BigFrame
set_option linter.unusedVariables false
set_option linter.unusedSimpArgs false

/-- A list of ranges in memory of its own. -/
def SpAt (w0 w : World) (v : Value) (ss : List (Nat × Nat)) : Prop := ∃ base, w0.heap.size ≤ base ∧ w.ownsRow base 92 2 v ss.length (cellsS ss)
theorem SpAt.form {w0 w : World} {v : Value} {ss : List (Nat × Nat)} (h : SpAt w0 w v ss) : ∃ ao cap, v = .slice ao ss.length cap := by
  obtain ⟨base, _, h⟩ := h
  rcases h.2 with ⟨rfl, h0⟩ | ⟨g, cap, cur, rfl, _⟩
  · exact ⟨none, 0, by rw [h0]⟩
  · exact ⟨_, cap, rfl⟩
theorem SpAt.old {w0 w w' : World} {v : Value} {ss : List (Nat × Nat)} (h : SpAt w0 w v ss) (k : Kept [] w w') : SpAt w0 w' v ss := by
  obtain ⟨base, hb, h⟩ := h
  exact ⟨base, hb, k.owns h (by simp)⟩

set_option maxRecDepth 100000 in
set_option maxHeartbeats 1000000 in
theorem path_any (i n : Nat) (w : World) (hi : i < n) (hn : n < 18446744073709551616) :
    Calls Tryd.prog 41 #[.int .u64 i, .int .u64 n] w fun e w' => ∃ v, e = .returned v ∧ SpAt w w' v (pathF i 64 0 n) ∧ Kept [] w w' := by
  have k0 := ((Kept.refl [] w).alloc (.cells #[.int .u64 (i : Int)] 49)).alloc (.cells #[.slice none 0 0] 80)
  have G3 := alloc3_at w (.cells #[.int .u64 (i : Int)] 49) (.cells #[.slice none 0 0] 80) (.cells #[.nilFunc] 93)
  have cS := cell_of_row _ _ 0 _ _ _ G3
  have fS := frozen_of_row _ _ 0 _ _ G3
  rw [show (#[Value.nilFunc] : Array Value)[0]? = some .nilFunc from rfl] at cS
  have k2 := k0.alloc (.cells #[pathV w.heap.size (w.heap.size + 1 + 1) (w.heap.size + 1)] 93)
  have G4 := alloc3_at w (.cells #[.int .u64 (i : Int)] 49) (.cells #[.slice none 0 0] 80) (.cells #[pathV w.heap.size (w.heap.size + 1 + 1) (w.heap.size + 1)] 93)
  have GT := (((Kept.refl [] (w.alloc (.cells #[.int .u64 (i : Int)] 49))).alloc (.cells #[.slice none 0 0] 80)).alloc (.cells #[pathV w.heap.size (w.heap.size + 1 + 1) (w.heap.size + 1)] 93)).heap (heap_alloc_new w (.cells #[.int .u64 (i : Int)] 49)) (by simp)
  have GZ := ((Kept.refl [] ((w.alloc (.cells #[.int .u64 (i : Int)] 49)).alloc (.cells #[.slice none 0 0] 80))).alloc (.cells #[pathV w.heap.size (w.heap.size + 1 + 1) (w.heap.size + 1)] 93)).heap (alloc2_at w (.cells #[.int .u64 (i : Int)] 49) (.cells #[.slice none 0 0] 80)) (by simp)
  obtain ⟨X, hX⟩ : ∃ X, ((w.alloc (.cells #[.int .u64 (i : Int)] 49)).alloc (.cells #[.slice none 0 0] 80)).alloc (.cells #[pathV w.heap.size (w.heap.size + 1 + 1) (w.heap.size + 1)] 93) = X := ⟨_, rfl⟩
  have hsz : X.heap.size = w.heap.size + 3 := by rw [← hX]; simp
  rw [hX] at k2 G4 GT GZ
  have HL := (⟨Kept.refl _ _, GZ, World.ownsRow_nil _ _ _ _, by omega⟩ : Lst X (w.heap.size + 1) [] X (.slice none 0 0))
  have HP := (⟨G4, GT, ⟨by omega, by omega⟩, ⟨by omega, by omega⟩⟩ : PathW w.heap.size (w.heap.size + 1 + 1) i (w.heap.size + 1) X X)
  have HC := hide (pathC_any X w.heap.size (w.heap.size + 1 + 1) (w.heap.size + 1) i 64 0 n [] (.slice none 0 0) X (by omega) (by omega) hn (by simp) HL HP)
  have HX := hide (by rw [hsz]; omega : w.heap.size ≤ X.heap.size)
  have HK := hide k2
  rw [List.nil_append] at HC
  unfold pathV at hX
  have HXE := hide hX
  clear k0 k2 G3 G4 GT GZ HL HP hX hsz
  go_enter Tryd.func41, Tryd.ntmps41
  go_wp2_with (rw [run_store _ _ _ _ _ (by rfl), cS]; simp only [fS, Bool.false_eq_true, if_false, Result.andThen_ok])
  rw [unhide HXE]
  refine (unhide HC).mono ?_
  rintro e w5 ⟨rfl, u, l5, _⟩
  have cu := cell_of_row _ _ 0 _ _ _ l5.row
  simp at cu
  have HL5 := hide l5
  clear l5 cS fS HC
  go_wp2_with fail
  go_ret
  exact ⟨u, rfl, ⟨_, unhide HX, (unhide HL5).own⟩, (unhide HK).trans (unhide HL5).kept (by intro x hx; right; simp at hx; omega)⟩
end Go.Proofs.YtecadmldnjlibaaDoor
namespace Go.Proofs.YtecadmldnjlibaaDoor
open Go.RowKit Go.BigFrame
set_option linter.unusedVariables false
set_option linter.unusedSimpArgs false

/-- The ranges of a consistency proof of m and n. -/
def smL (m n : Nat) : List (Nat × Nat) := if m = 0 ∨ m = n then [] else seamF m 64 0 n true

set_option maxRecDepth 100000 in
set_option maxHeartbeats 1000000 in
theorem seam_any (m n : Nat) (w : World) (hm : m ≤ n) (hn : n < 18446744073709551616) :
    Calls Tryd.prog 42 #[.int .u64 m, .int .u64 n] w fun e w' => ∃ v, e = .returned v ∧ SpAt w w' v (smL m n) ∧ Kept [] w w' := by
  have c1 := cell_of_row _ _ 0 _ _ _ (heap_alloc_new w (.cells #[.int .u64 (m : Int)] 49))
  simp at c1
  by_cases h0 : m = 0
  · subst h0
    go_enter Tryd.func42, Tryd.ntmps42
    go_wp2_with fail
    go_ret
    exact ⟨_, rfl, ⟨_, Nat.le_refl _, by unfold smL; rw [if_pos (by simp)]; exact World.ownsRow_nil _ _ _ _⟩, (Kept.refl [] w).alloc _⟩
  · have h0' : ¬ (m : Int) = 0 := by omega
    by_cases h1 : m = n
    · subst h1
      go_enter Tryd.func42, Tryd.ntmps42
      go_wp2_with fail
      go_ret
      exact ⟨_, rfl, ⟨_, Nat.le_refl _, by unfold smL; rw [if_pos (by simp)]; exact World.ownsRow_nil _ _ _ _⟩, (Kept.refl [] w).alloc _⟩
    · have h1' : ¬ (m : Int) = (n : Int) := by omega
      have hb0 : ((m : Int) == 0) = false := by simp; omega
      have hb1 : ((m : Int) == (n : Int)) = false := by simp; omega
      have HSM := hide (by unfold smL; rw [if_neg (by omega)] : smL m n = seamF m 64 0 n true)
      have k0 := ((Kept.refl [] w).alloc (.cells #[.int .u64 (m : Int)] 49)).alloc (.cells #[.slice none 0 0] 80)
      have G3 := alloc3_at w (.cells #[.int .u64 (m : Int)] 49) (.cells #[.slice none 0 0] 80) (.cells #[.nilFunc] 95)
      have cS := cell_of_row _ _ 0 _ _ _ G3
      have fS := frozen_of_row _ _ 0 _ _ G3
      rw [show (#[Value.nilFunc] : Array Value)[0]? = some .nilFunc from rfl] at cS
      have k2 := k0.alloc (.cells #[seamV w.heap.size (w.heap.size + 1) (w.heap.size + 1 + 1)] 95)
      have G4 := alloc3_at w (.cells #[.int .u64 (m : Int)] 49) (.cells #[.slice none 0 0] 80) (.cells #[seamV w.heap.size (w.heap.size + 1) (w.heap.size + 1 + 1)] 95)
      have GT := (((Kept.refl [] (w.alloc (.cells #[.int .u64 (m : Int)] 49))).alloc (.cells #[.slice none 0 0] 80)).alloc (.cells #[seamV w.heap.size (w.heap.size + 1) (w.heap.size + 1 + 1)] 95)).heap (heap_alloc_new w (.cells #[.int .u64 (m : Int)] 49)) (by simp)
      have GZ := ((Kept.refl [] ((w.alloc (.cells #[.int .u64 (m : Int)] 49)).alloc (.cells #[.slice none 0 0] 80))).alloc (.cells #[seamV w.heap.size (w.heap.size + 1) (w.heap.size + 1 + 1)] 95)).heap (alloc2_at w (.cells #[.int .u64 (m : Int)] 49) (.cells #[.slice none 0 0] 80)) (by simp)
      obtain ⟨X, hX⟩ : ∃ X, ((w.alloc (.cells #[.int .u64 (m : Int)] 49)).alloc (.cells #[.slice none 0 0] 80)).alloc (.cells #[seamV w.heap.size (w.heap.size + 1) (w.heap.size + 1 + 1)] 95) = X := ⟨_, rfl⟩
      have hsz : X.heap.size = w.heap.size + 3 := by rw [← hX]; simp
      rw [hX] at k2 G4 GT GZ
      have HL := (⟨Kept.refl _ _, GZ, World.ownsRow_nil _ _ _ _, by omega⟩ : Lst X (w.heap.size + 1) [] X (.slice none 0 0))
      have HP := (⟨G4, GT, ⟨by omega, by omega⟩, ⟨by omega, by omega⟩⟩ : SeamW w.heap.size (w.heap.size + 1 + 1) m (w.heap.size + 1) X X)
      have HC := hide (seamC_any X w.heap.size (w.heap.size + 1 + 1) (w.heap.size + 1) m 64 0 n true [] (.slice none 0 0) X (by omega) (by omega) (by omega) hn (by simp) HL HP)
      have HX := hide (by rw [hsz]; omega : w.heap.size ≤ X.heap.size)
      have HK := hide k2
      rw [List.nil_append] at HC
      unfold seamV at hX
      have HXE := hide hX
      clear k0 k2 G3 G4 GT GZ HL HP hX hsz
      go_enter Tryd.func42, Tryd.ntmps42
      go_wp2_with (first | (simp only [hb0, hb1, Bool.or_self]) | (rw [run_store _ _ _ _ _ (by rfl), cS]; simp only [fS, Bool.false_eq_true, if_false, Result.andThen_ok]))
      rw [unhide HXE]
      refine (unhide HC).mono ?_
      rintro e w5 ⟨rfl, u, l5, _⟩
      have cu := cell_of_row _ _ 0 _ _ _ l5.row
      simp at cu
      have HL5 := hide l5
      clear l5 cS fS HC c1
      go_wp2_with fail
      go_ret
      exact ⟨u, rfl, ⟨_, unhide HX, by rw [unhide HSM]; exact (unhide HL5).own⟩, (unhide HK).trans (unhide HL5).kept (by intro x hx; right; simp at hx; omega)⟩

/-- What Counts answers. -/
def cntE (i m n : Nat) : Int := if n ≤ i ∨ n < m then 4 else 0
def cntA (i m n : Nat) : Int := if n ≤ i ∨ n < m then 0 else ((pathF i 64 0 n).length : Int)
def cntB (i m n : Nat) : Int := if n ≤ i ∨ n < m then 0 else ((smL m n).length : Int)

set_option maxRecDepth 100000 in
set_option maxHeartbeats 1000000 in
theorem counts_any (i m n : Nat) (w : World) (hi : i < 18446744073709551616) (hm : m < 18446744073709551616) (hn : n < 18446744073709551616) :
    Calls Tryd.prog 22 #[.int .u64 i, .int .u64 m, .int .u64 n] w fun e w' => e = .returned (.tuple #[.int .i64 (cntA i m n), .int .i64 (cntB i m n), .int .i64 (cntE i m n)]) ∧ Kept [] w w' := by
  unfold cntA cntB cntE
  by_cases h1 : n ≤ i
  · have h1' : (n : Int) ≤ (i : Int) := by omega
    rw [if_pos (Or.inl h1), if_pos (Or.inl h1), if_pos (Or.inl h1)]
    go_enter Tryd.func22, Tryd.ntmps22
    go_wp2_with fail
    all_goals exact ⟨rfl, _, results_tmp3 rfl _ _ _, rfl, Kept.refl _ _⟩
  · have h1' : ¬ (n : Int) ≤ (i : Int) := by omega
    by_cases h2 : n < m
    · have h2' : (n : Int) < (m : Int) := by omega
      rw [if_pos (Or.inr h2), if_pos (Or.inr h2), if_pos (Or.inr h2)]
      go_enter Tryd.func22, Tryd.ntmps22
      go_wp2_with fail
      all_goals exact ⟨rfl, _, results_tmp3 rfl _ _ _, rfl, Kept.refl _ _⟩
    · have h2' : ¬ (n : Int) < (m : Int) := by omega
      rw [if_neg (by omega), if_neg (by omega), if_neg (by omega)]
      have HSE := hide (fun W => seam_any m n W (by omega) hn)
      have HPA := hide (path_any i n w (by omega) hn)
      generalize pathF i 64 0 n = ps at HPA ⊢
      generalize smL m n = ss at HSE ⊢
      go_enter Tryd.func22, Tryd.ntmps22
      go_wp2_with fail
      refine (unhide HPA).mono ?_
      rintro e w1 ⟨v1, rfl, s1, k1⟩
      obtain ⟨a1, c1, rfl⟩ := s1.form
      have HK1 := hide k1
      clear s1 k1 HPA
      go_wp2_with fail
      refine (unhide HSE w1).mono ?_
      rintro e w2 ⟨v2, rfl, s2, k2⟩
      obtain ⟨a2, c2, rfl⟩ := s2.form
      have HK2 := hide ((unhide HK1).trans k2 (by simp))
      clear s2 k2 HSE
      go_wp2_with fail
      exact ⟨rfl, _, results_tmp3 rfl _ _ _, rfl, unhide HK2⟩
end Go.Proofs.YtecadmldnjlibaaDoor
namespace Go.Proofs.YtecadmldnjlibaaDoor
open Go.RowKit Go.BigFrame
set_option linter.unusedVariables false
set_option linter.unusedSimpArgs false

theorem RdD.nlP {w : World} {ao : Option Addr} {len cap : Nat} {ds : List (List Nat)} (h : RdD w (.slice ao len cap) ds) : ds.length = len := by
  obtain ⟨_, _, _, e, h1, _⟩ := h
  cases e; exact h1
theorem RdD.oneP {w : World} {g : Nat} {l : List Nat} {t : TypeId} {fr : Nat × Nat} (h : w.heap[g]? = some (.cells (brow l) t fr)) (hl : Dg l) : RdD w (.slice (some ⟨g, 0, none⟩) 1 1) [l] := by
  refine ⟨_, 1, 1, rfl, rfl, Nat.le_refl _, by omega, fun d hd => by simp at hd; subst hd; exact hl, fun _ => ⟨g, 0, rfl, fun i hi => ?_⟩⟩
  obtain rfl : i = 0 := by omega
  exact range_row h
/-- The cells of digests in a row. -/
def flatD (ds : List (List Nat)) : List Value := (ds.map fun d => d.map u8).flatten
theorem flatD_len {ds : List (List Nat)} (h : ∀ d ∈ ds, d.length = 32) : (flatD ds).length = ds.length * 32 := by
  induction ds with
  | nil => rfl
  | cons d r ih =>
    have := ih (fun x hx => h x (by simp [hx]))
    simp only [flatD, List.map_cons, List.flatten_cons, List.length_append, List.length_map, List.length_cons] at this ⊢
    rw [this, h d (by simp)]; omega
theorem flatD_app (a b : List (List Nat)) : flatD (a ++ b) = flatD a ++ flatD b := by simp [flatD]
theorem flatD_one (ds : List (List Nat)) : ∀ v ∈ flatD ds, v.oneCell' = true := by
  intro v hv
  simp only [flatD, List.mem_flatten, List.mem_map] at hv
  obtain ⟨l, ⟨d, _, rfl⟩, h⟩ := hv
  exact u8_oneCell d v h
theorem flatD_at {ds : List (List Nat)} (h : ∀ d ∈ ds, d.length = 32) : ∀ (i : Nat), i < ds.length → ∀ j, j < 32 → (flatD ds)[i * 32 + j]? = ((ds.getD i []).map u8)[j]? := by
  induction ds with
  | nil => intro i hi; simp at hi
  | cons d r ih =>
    intro i hi j hj
    have hd := h d (by simp)
    have e : flatD (d :: r) = d.map u8 ++ flatD r := by simp [flatD]
    rw [e]
    cases i with
    | zero =>
      rw [Nat.zero_mul, Nat.zero_add, List.getElem?_append_left (by simp [hd]; exact hj)]; rfl
    | succ i =>
      rw [List.getElem?_append_right (by simp [hd]; omega), List.length_map, hd, show (i + 1) * 32 + j - 32 = i * 32 + j by omega, ih (fun x hx => h x (by simp [hx])) i (by simpa using hi) j hj]
      rfl
theorem RdD.news {w : World} {b off n c : Nat} {ds : List (List Nat)} (h : RdD w (.slice (some ⟨b, off, none⟩) n c) ds) : ∀ j u, (flatD ds)[j]? = some u → w.cell? ((⟨b, off, none⟩ : Addr).add j) = some u := by
  obtain ⟨ao', len', cap', e, h1, h2, h3, h4, h5⟩ := h
  cases e
  intro j u hu
  have hl := flatD_len (fun d hd => (h4 d hd).1)
  have hj := (List.getElem?_eq_some_iff.1 hu).1
  have hp : 0 < n := by
    rcases Nat.eq_zero_or_pos n with h0 | h0
    · rw [hl, h1, h0] at hj; omega
    · exact h0
  obtain ⟨b', off', e, hc⟩ := h5 hp
  cases e
  have hi : j / 32 < ds.length := by omega
  have hq := flatD_at (fun d hd => (h4 d hd).1) (j / 32) hi (j % 32) (Nat.mod_lt _ (by decide))
  rw [show j / 32 * 32 + j % 32 = j by omega, hu] at hq
  have := hc (j / 32) (by omega) (j % 32) u hq.symm
  rw [Addr.add_mid]
  rw [show off + j / 32 * 32 + j % 32 = off + j by omega] at this
  exact this
theorem rdd_owns {w : World} {base : Nat} {v : Value} {ds : List (List Nat)} (h : w.ownsRow base 41 32 v ds.length (flatD ds)) (hd : ∀ d ∈ ds, Dg d) : RdD w v ds := by
  rcases h.2 with ⟨rfl, h0⟩ | ⟨g, cap, cur, rfl, _, hg, h1, h2, h3, h4⟩
  · exact ⟨none, 0, 0, rfl, h0, Nat.le_refl _, by omega, hd, fun h => by omega⟩
  · refine ⟨_, ds.length, cap, rfl, rfl, h1, by unfold maxLen at h2; omega, hd, fun hp => ⟨g, 0, rfl, fun i hi j v hv => ?_⟩⟩
    have hj : j < 32 := by
      have := (List.getElem?_eq_some_iff.1 hv).1
      rw [List.length_map, List.getD_eq_getElem?_getD, List.getElem?_eq_getElem hi] at this
      rw [← (hd ds[i] (List.getElem_mem hi)).1]; exact this
    have hq := flatD_at (fun d hd' => (hd d hd').1) i hi j hj
    rw [Nat.zero_add, cell_of_row _ _ _ _ _ _ hg, ← hv, ← hq, ← h4, List.getElem?_take_of_lt (by omega), Array.getElem?_toList]

theorem Tryd.infoD : (Tryd.prog.info? 41).map (fun i => (i.zero, i.size, i.bytes)) = some (some (.agg (zb 32)), 32, 32) := by kernel_rfl

theorem owns_form {w : World} {base : Nat} {e : TypeId} {size n : Nat} {v : Value} {xs : List Value} (h : w.ownsRow base e size v n xs) : ∃ ao cap, v = .slice ao n cap := by
  rcases h.2 with ⟨rfl, rfl⟩ | ⟨g, cap, cur, rfl, _⟩
  · exact ⟨none, 0, rfl⟩
  · exact ⟨_, cap, rfl⟩
theorem append_none {P : Program} {w : World} (base : Nat) (t ty e : TypeId) (i : TypeInfo) (size c : Nat) (ht : P.underlying t = some (.slice e)) (hi : P.info? e = some i)
    (v : Value) (n : Nat) (xs : List Value) (hown : w.ownsRow base e size v n xs) :
    (Builtin.append_ #[t, t] ty #[v, .slice none 0 c]).run P w = .ok v w := by
  rcases hown.2 with ⟨rfl, rfl⟩ | ⟨g, cap, cur, rfl, _, _, hnc, _⟩
  · simp [Builtin.append_, run_underlying ht, sizeOf, typeInfo, hi, Builtin.lenOf, Builtin.firstCells]
  · simp [Builtin.append_, run_underlying ht, sizeOf, typeInfo, hi, Builtin.lenOf, Builtin.firstCells, hnc, storeCells]

theorem appendD (w : World) (base : Nat) (v : Value) (ds ps : List (List Nat)) (ao : Option Addr) (n c : Nat) (h : w.ownsRow base 41 32 v ds.length (flatD ds)) (hr : RdD w (.slice ao n c) ps) (hl : ds.length + ps.length ≤ 1000000000000) (hb : base ≤ w.heap.size) :
    ∃ ao' cap' w1, (Builtin.append_ #[32, 32] 32 #[v, .slice ao n c]).run Tryd.prog w = .ok (.slice ao' (ds.length + ps.length) cap') w1 ∧
      w1.ownsRow base 41 32 (.slice ao' (ds.length + ps.length) cap') (ds ++ ps).length (flatD (ds ++ ps)) ∧ w.grownBy w1 v.ownBlock := by
  obtain ⟨i0, hi, hz0, hz1, hz2⟩ := info_parts Tryd.infoD
  have hn := hr.nlP
  have hdg : ∀ d ∈ ps, d.length = 32 := fun d hd => (hr.dg hd).1
  rw [flatD_app, List.length_append]
  by_cases h0 : n = 0
  · subst h0
    have hp : ps = [] := List.eq_nil_of_length_eq_zero hn
    subst hp
    cases ao with
    | none =>
      have hrun := append_none (P := Tryd.prog) (w := w) base 32 32 41 i0 32 c Tryd.underlying32 hi v ds.length (flatD ds) h
      obtain ⟨ao', cap', rfl⟩ := owns_form h
      exact ⟨ao', cap', w, hrun, by simpa [flatD] using h, World.grownBy.refl _ _⟩
    | some ad =>
      obtain ⟨v', w1, hrun, hown, hgrow, _, hat⟩ := run_append_own_at (P := Tryd.prog) w base 32 32 41 i0 (.agg (zb 32)) 32 32 Tryd.underlying32 hi hz0 hz1 hz2 (by show (zb 32).size = 32; exact zb_size 32) (by decide)
        v ds.length (flatD ds) h ad 0 c (flatD []) (by simp [flatD]) (by intro j u hj; simp [flatD] at hj) (flatD_one _) (by unfold maxLen; omega) (by omega) hb
      obtain ⟨ao', cap', rfl⟩ := owns_form hown
      exact ⟨ao', cap', w1, hrun, hown, hgrow⟩
  · have hr' := hr
    obtain ⟨ao1, n1, c1, he, h1, h2, h3, h4, h5⟩ := hr'
    cases he
    obtain ⟨b, off, rfl, hc⟩ := h5 (by omega)
    obtain ⟨v', w1, hrun, hown, hgrow, _, hat⟩ := run_append_own_at (P := Tryd.prog) w base 32 32 41 i0 (.agg (zb 32)) 32 32 Tryd.underlying32 hi hz0 hz1 hz2 (by show (zb 32).size = 32; exact zb_size 32) (by decide)
      v ds.length (flatD ds) h ⟨b, off, none⟩ n c (flatD ps) (by rw [flatD_len hdg, hn]) hr.news (flatD_one _) (by unfold maxLen; omega) (by omega) hb
    subst h1
    obtain ⟨ao', cap', rfl⟩ := owns_form hown
    exact ⟨ao', cap', w1, hrun, hown, hgrow⟩

theorem wpList_appendD {ops : Array Oper} {rest : List Oper} {o : Oper} {a : Act} {Q : Exit → Act → World → Prop} (hgd : o.guard = none) (s x : Operand)
    (ho : o.op = .call { callee := .builtin .append, args := #[s, x], argTypes := #[32, 32] }) (hty : o.type = 32)
    (w : World) (base : Nat) (v : Value) (ds ps : List (List Nat)) (ao : Option Addr) (n c : Nat) (h : w.ownsRow base 41 32 v ds.length (flatD ds)) (hr : RdD w (.slice ao n c) ps) (hl : ds.length + ps.length ≤ 1000000000000) (hb : base ≤ w.heap.size)
    (hs : a.eval s = v) (hx : a.eval x = .slice ao n c)
    (hK : ∀ ao' cap' w1, Hid (w1.ownsRow base 41 32 (.slice ao' (ds.length + ps.length) cap') (ds ++ ps).length (flatD (ds ++ ps))) → Hid (w.grownBy w1 v.ownBlock) →
      wpList Tryd.prog ops Q rest (a.put o.dst (.slice ao' (ds.length + ps.length) cap')) w1) :
    wpList Tryd.prog ops Q (o :: rest) a w := by
  obtain ⟨ao', cap', w1, hrun, h2, h3⟩ := appendD w base v ds ps ao n c h hr hl hb
  refine wpList_plain hgd fun K hK' => ?_
  unfold Oper.wp execOp
  simp only [ho, hty, resolve, invoke, builtin, Sem.run_bind, Sem.run_pure, Result.andThen_ok, List.map_toArray, List.map_cons, List.map_nil, hs, hx, hrun]
  exact hK' _ _ (hK ao' cap' w1 h2 h3)

end Go.Proofs.YtecadmldnjlibaaDoor
namespace Go.Proofs.YtecadmldnjlibaaDoor
open Go.RowKit Go.BigFrame
set_option linter.unusedVariables false
set_option linter.unusedSimpArgs false

/-- The digests of ranges. -/
def rgL (z : Int) (L : List (List Nat)) (ss : List (Nat × Nat)) : List (List Nat) := ss.map fun s => rgD z L s.1 s.2
/-- A list of digests in memory of its own. -/
structure OwD (w0 w : World) (v : Value) (ds : List (List Nat)) : Prop where
  own : w.ownsRow w0.heap.size 41 32 v ds.length (flatD ds)
  dg : ∀ d ∈ ds, Dg d
  kept : Kept [] w0 w
theorem OwD.rd {w0 w : World} {v : Value} {ds : List (List Nat)} (h : OwD w0 w v ds) : RdD w v ds := rdd_owns h.own h.dg
theorem OwD.pass {w0 w w' : World} {v : Value} {ds : List (List Nat)} (h : OwD w0 w v ds) (k : Kept [] w w') : OwD w0 w' v ds := ⟨k.owns h.own (by simp), h.dg, h.kept.trans k (by simp)⟩
theorem OwD.nil (w : World) : OwD w w (.slice none 0 0) [] := ⟨World.ownsRow_nil _ _ _ _, by simp, Kept.refl _ _⟩
theorem OwD.push {w0 w w1 : World} {v u : Value} {ds : List (List Nat)} {d : List Nat} (h : OwD w0 w v ds) (hd : Dg d) (o : w1.ownsRow w0.heap.size 41 32 u (ds ++ [d]).length (flatD (ds ++ [d]))) (g : w.grownBy w1 v.ownBlock) : OwD w0 w1 u (ds ++ [d]) := by
  refine ⟨o, ?_, h.kept.grown g (by intro k hk; right; exact (h.own.lt k hk).1)⟩
  intro x hx
  rcases List.mem_append.1 hx with hx | hx
  · exact h.dg x hx
  · rw [List.mem_singleton] at hx; subst hx; exact hd

theorem Tryd.size_span : (Tryd.prog.info? 92).map (·.size) = some 2 := by kernel_rfl
theorem SpAt.cells {w0 w : World} {ao : Option Addr} {n c : Nat} {ss : List (Nat × Nat)} (h : SpAt w0 w (.slice ao n c) ss) (i : Nat) (hi : i < ss.length) : ∃ g, ao = some ⟨g, 0, none⟩ ∧ w.rangeAt g (i * 2) [.int .u64 (ss[i].1 : Int), .int .u64 (ss[i].2 : Int)] := by
  obtain ⟨base, _, h⟩ := h
  rcases h.2 with ⟨e, h0⟩ | ⟨g, cap, cur, e, _⟩
  · omega
  · cases e
    refine ⟨g, rfl, ?_⟩
    have hx := cellsS_get ss i hi
    have c1 := h.cells (g := g) rfl (2 * i) _ hx.1
    have c2 := h.cells (g := g) rfl (2 * i + 1) _ hx.2
    rw [Addr.add_mid, Nat.zero_add] at c1 c2
    intro j v hv
    match j, hv with
    | 0, hv => simp at hv; subst hv; rw [show i * 2 + 0 = 2 * i by omega]; exact c1
    | 1, hv => simp at hv; subst hv; rw [show i * 2 + 1 = 2 * i + 1 by omega]; exact c2
    | j + 2, hv => simp at hv
theorem one_digP (l : List Nat) (hl : l.length = 32) : List.foldl (fun cs x => cs.setIfInBounds x.snd x.fst) (zb 32) (List.map u8 l).zipIdx = brow l := by
  have h := fold_put (l.map u8) (zb 32) 0 0 (by rw [zb_size]; simp [hl])
  simp only [Nat.zero_add] at h
  rw [h]
  unfold brow
  rw [List.take_zero, List.nil_append, List.drop_eq_nil_of_le (by rw [List.length_map, hl, Array.length_toList, zb_size]; exact Nat.le_refl _), List.append_nil]

set_option maxRecDepth 100000 in
set_option maxHeartbeats 400000 in
theorem digests_nil (n : Int) (lv : Value) (w : World) :
    Calls Tryd.prog 40 #[.pointer none, .int .u64 n, lv] w fun e w' => e = .returned (.tuple #[.slice none 0 0, .int .i64 5]) ∧ w' = w := by
  go_enter Tryd.func40, Tryd.ntmps40
  go_wp2_with fail
  exact ⟨rfl, _, results_tmp2 rfl _ _ _, rfl, rfl⟩

set_option maxRecDepth 100000 in
set_option maxHeartbeats 400000 in
theorem digests_bad (z : Int) (t : Nat) (v lv : Value) (ps : List Pk) (n : Nat) (w : World) (hT : TreeAt z w t v ps) (hn : (leavesK ps).length < n) :
    Calls Tryd.prog 40 #[.pointer (some ⟨t, 0, none⟩), .int .u64 n, lv] w fun e w' => e = .returned (.tuple #[.slice none 0 0, .int .i64 4]) ∧ Kept [] w w' := by
  have HS := hide (sizeT_any t z v ps w hT)
  have hn' : ((leavesK ps).length : Int) < n := by omega
  generalize (leavesK ps).length = m at HS hn'
  go_enter Tryd.func40, Tryd.ntmps40
  go_wp2_with fail
  refine (unhide HS).mono ?_
  rintro e w1 ⟨rfl, rfl⟩
  go_wp2_with fail
  exact ⟨rfl, _, results_tmp2 rfl _ _ _, rfl, Kept.refl _ _⟩

set_option maxRecDepth 100000 in
set_option maxHeartbeats 1000000 in
theorem digests_any (z : Int) (t : Nat) (v lv : Value) (ps : List Pk) (n : Nat) (ss : List (Nat × Nat)) (w0 w : World) (hT : TreeAt z w t v ps) (hn : n ≤ (leavesK ps).length) (hb : (leavesK ps).length < 32768) (hs : SpAt w0 w lv ss) (hl : ss.length ≤ 1000) (hTb : Tabs w) (h6 : Tab6 w) :
    Calls Tryd.prog 40 #[.pointer (some ⟨t, 0, none⟩), .int .u64 n, lv] w fun e w' => ∃ u, e = .returned (.tuple #[u, .int .i64 0]) ∧ OwD w w' u (rgL z (leavesK ps) ss) := by
  have HS := hide (sizeT_any t z v ps w hT)
  have hn' : ¬ ((leavesK ps).length : Int) < n := by omega
  have HTR := hide hT
  have HTB := hide hTb
  have H6 := hide h6
  have HSP := hide hs
  have HBN := hide hb
  have HDG := hide (fun a b => rgD_len hT.pk a b)
  obtain ⟨sa, sc, rfl⟩ := hs.form
  generalize (leavesK ps).length = m at HS hn'
  clear hT hTb h6 hs hn hb
  go_enter Tryd.func40, Tryd.ntmps40
  go_wp2_with fail
  refine (unhide HS).mono ?_
  rintro e w1 ⟨rfl, rfl⟩
  go_wp2_with fail
  simp only [show decide (m < n) = false from decide_eq_false (by omega)]
  go_loopw [8, 21] (fun t8 t21 wr => ∃ (i : Nat), i ≤ ss.length ∧ t21 = .int .i64 (i : Int) ∧ Hid (OwD w1 wr t8 (rgL z (leavesK ps) (ss.take i)))) (fun _ t _ => ss.length - (intOf t).toNat)
  case atStart => exact ⟨0, Nat.zero_le _, rfl, hide (OwD.nil _)⟩
  case round =>
    obtain ⟨i, hi, rfl, HO⟩ := hrel
    by_cases hlt : i < ss.length
    · have hlt' : (i : Int) < (ss.length : Int) := by omega
      obtain ⟨g, hsa, hcell⟩ := ((unhide HSP).old (unhide HO).kept).cells i hlt
      subst hsa
      have HSN := hide (by unfold rgL; rw [List.take_add_one, List.getElem?_eq_getElem hlt, List.map_append]; rfl : rgL z (leavesK ps) (ss.take (i + 1)) = rgL z (leavesK ps) (ss.take i) ++ [rgD z (leavesK ps) ss[i].1 ss[i].2])
      have HLN := hide (by unfold rgL; rw [List.length_map, List.length_take]; omega : (rgL z (leavesK ps) (ss.take i)).length + 1 ≤ 1000000)
      have HDG1 := hide (unhide HDG ss[i].1 ss[i].2)
      generalize ss[i].1 = lo at hcell HSN HDG1
      generalize ss[i].2 = hi' at hcell HSN HDG1
      have HRG := hide (fun W (k : Kept [] w1 W) => rangeT_all z t v ps lo hi' W ((unhide HTR).old k) (unhide HBN) ((unhide HTB).kept k (by simp) (by simp)) ((unhide H6).kept k))
      generalize rgD z (leavesK ps) lo hi' = D at HRG HSN HDG1
      generalize rgE (leavesK ps) lo hi' = E at HRG
      have hdl := (unhide HDG1).1
      generalize rgL z (leavesK ps) (ss.take i) = ds at HO HSN HLN
      obtain ⟨ua, ucap, rfl⟩ := owns_form (unhide HO).own
      have ia : ¬ (i : Int) < 0 := by omega
      have ib : ¬ (ss.length : Int) ≤ i := by omega
      have kA := (Kept.refl [] wr).alloc (.cells #[.int .u64 (lo : Int), .int .u64 (hi' : Int)] 92)
      have HOA := hide ((unhide HO).pass kA)
      have HRC := hide (unhide HRG _ (unhide HOA).kept)
      have HCL := hide hcell
      clear hcell kA HRG
      go_wp2_with (first
        | (refine wpList_load_mid rfl 92 _ rfl g (i * 2) rfl [.int .u64 (lo : Int), .int .u64 (hi' : Int)] _ (unhide HCL) Tryd.underlying92 rfl (by exact Tryd.size_span) ?_))
      refine (unhide HRC).mono ?_
      rintro e wa ⟨rfl, ka⟩
      have HOB := hide (((unhide HOA).pass ka).pass (kept_old wa D))
      have HN := hide (cell_new wa D)
      clear ka HRC HOA HO HCL
      obtain ⟨wb, hwb⟩ : ∃ wb, (wa.alloc (.cells (zb 32) 41)).setRow wa.heap.size (brow D) = wb := ⟨_, rfl⟩
      rw [hwb] at HOB HN
      have HWB := hide hwb
      have HOC := hide ((unhide HOB).pass ((Kept.refl [] wb).alloc (.cells (brow D) 41)))
      have HNC := hide (heap_alloc_new wb (.cells (brow D) 41))
      clear hwb
      go_wp2_with (first
        | (rw [zb32]; refine wpList_store_row rfl 41 (.tmp 11) _ rfl wa.heap.size (brow D) rfl rfl _ (zb 32) (heap_alloc_new _ _) (Tryd.szD hdl) (by rw [zb_size, brow_size, hdl]) (brow_one _) ?_; rw [unhide HWB])
        | (refine wpList_load_mid rfl 41 _ rfl wa.heap.size 0 rfl (D.map u8) _ (range_row (unhide HN)) Tryd.underlying41 rfl (by rw [List.length_map, hdl]; exact Tryd.size_dig) ?_)
        | (at_builtin; rw [zb32, one_digP D hdl]; refine wpList_appendD rfl _ _ rfl rfl (wb.alloc (.cells (brow D) 41)) w1.heap.size (.slice ua ds.length ucap) ds [D] (some ⟨wb.heap.size, 0, none⟩) 1 1 (unhide HOC).own (RdD.oneP (unhide HNC) (unhide HDG1)) (by have := unhide HLN; simp; omega) (unhide HOC).kept.size rfl rfl ?_; intro ao3 cap3 w3 HO3 HG3; have HO4 := hide ((unhide HOC).push (unhide HDG1) (unhide HO3) (unhide HG3)); clear HO3 HG3))
      go_roundw
      case rel => exact ⟨i + 1, by omega, by simp, by rw [unhide HSN]; exact HO4⟩
      case measure => simp [intOf]; omega
    · have hlt' : ¬ (i : Int) < (ss.length : Int) := by omega
      have HE := hide (by rw [List.take_of_length_le (by omega)] : ss.take i = ss)
      go_wp2_with fail
      exact ⟨rfl, _, results_tmp2 rfl _ _ _, _, rfl, by have h9 := unhide HO; rw [unhide HE] at h9; exact h9⟩
end Go.Proofs.YtecadmldnjlibaaDoor
namespace Go.Proofs.YtecadmldnjlibaaDoor
open Go.RowKit Go.BigFrame
set_option linter.unusedVariables false
set_option linter.unusedSimpArgs false

theorem flatD_cut {ds : List (List Nat)} {i : Nat} (hi : i < ds.length) : flatD ds = flatD (ds.take i) ++ ((ds[i]).map u8 ++ flatD (ds.drop (i + 1))) := by
  have e : ds = ds.take i ++ (ds[i] :: ds.drop (i + 1)) := by rw [← List.drop_eq_getElem_cons hi, List.take_append_drop]
  have e2 : flatD ds = flatD (ds.take i ++ (ds[i] :: ds.drop (i + 1))) := congrArg flatD e
  rw [e2, flatD_app]
  congr 1
theorem flatD_set {ds : List (List Nat)} {i : Nat} (hi : i < ds.length) (X : List Nat) : flatD (ds.set i X) = flatD (ds.take i) ++ (X.map u8 ++ flatD (ds.drop (i + 1))) := by
  rw [List.set_eq_take_append_cons_drop, if_pos hi, flatD_app]
  simp [flatD]
/-- A digest written into an owned row of digests. -/
theorem owns_put {w : World} {base g cap : Nat} {ds : List (List Nat)} {i : Nat} {X : List Nat} (ho : w.ownsRow base 41 32 (.slice (some ⟨g, 0, none⟩) ds.length cap) ds.length (flatD ds)) (hd : ∀ d ∈ ds, d.length = 32) (hi : i < ds.length) (hX : X.length = 32) :
    w.there g (i * 32) 32 ∧ (w.setCells g (i * 32) (X.map u8)).ownsRow base 41 32 (.slice (some ⟨g, 0, none⟩) ds.length cap) ds.length (flatD (ds.set i X)) ∧ Kept [g] w (w.setCells g (i * 32) (X.map u8)) := by
  rcases ho.2 with ⟨h9, _⟩ | ⟨g', cap', cur, e, hb, hg, hc1, hc2, hcs, htk⟩
  · simp at h9
  · simp only [Value.slice.injEq, Option.some.injEq, Addr.mk.injEq, and_true, true_and] at e
    obtain ⟨rfl, rfl⟩ := e
    have hl1 : (flatD (ds.take i)).length = i * 32 := by
      rw [flatD_len (fun d h => hd d (List.mem_of_mem_take h)), List.length_take, Nat.min_eq_left (by omega)]
    have hcl : cur = (flatD (ds.take i) ++ ((ds[i]).map u8 ++ (flatD (ds.drop (i + 1)) ++ cur.toList.drop (ds.length * 32)))).toArray := by
      have h1 : cur.toList = flatD ds ++ cur.toList.drop (ds.length * 32) := by conv => lhs; rw [← List.take_append_drop (ds.length * 32) cur.toList, htk]
      rw [flatD_cut hi] at h1
      have h2 : cur = cur.toList.toArray := by simp
      rw [h2]
      conv => lhs; rw [h1]
      simp
    have hdi : (ds[i]).length = 32 := hd _ (List.getElem_mem hi)
    have hg2 := hg
    rw [hcl] at hg2
    have hs := setCells_row g 41 (X.map u8) ((ds[i]).map u8) (flatD (ds.take i)) _ w (by simp [hX, hdi]) hg2
    rw [hl1] at hs
    refine ⟨fun j hj => ⟨?_, frozen_of_row _ _ _ _ _ hg⟩, ⟨?_, Or.inr ⟨g, cap, _, rfl, hb, hs.1, hc1, hc2, ?_, ?_⟩⟩, hs.2⟩
    · rw [cell_of_row w g (i * 32 + j) _ _ _ hg, Array.getElem?_eq_getElem (by rw [hcs]; omega)]; rfl
    · rw [flatD_set hi]
      have := ho.1
      rw [flatD_cut hi] at this
      simp only [List.length_append, List.length_map] at this ⊢
      omega
    · have h3 := congrArg Array.size hcl
      rw [hcs] at h3
      simp only [List.size_toArray, List.length_append, List.length_map] at h3 ⊢
      omega
    · have h4 := ho.1
      rw [flatD_cut hi] at h4
      simp only [List.length_append, List.length_map] at h4
      rw [flatD_set hi, ← List.append_assoc (X.map u8), ← List.append_assoc (flatD (ds.take i))]
      rw [List.take_left' (by simp only [List.length_append, List.length_map]; omega)]
theorem OwD.there {w0 w : World} {v : Value} {ds : List (List Nat)} (h : OwD w0 w v ds) (hp : 0 < ds.length) : ∃ g cap, v = .slice (some ⟨g, 0, none⟩) ds.length cap ∧ w0.heap.size ≤ g ∧ (∃ cs, w.heap[g]? = some (.cells cs 41 (0, 0))) := by
  rcases h.own.2 with ⟨_, h9⟩ | ⟨g, cap, cur, e, hb, hg, _⟩
  · omega
  · exact ⟨g, cap, e, hb, _, hg⟩

/-- A tree whose peaks lie in memory of their own. -/
structure TrO (z : Int) (w : World) (t : Nat) (v : Value) (ps : List Pk) : Prop where
  tree : TreeAt z w t v ps
  nil : ps = [] → v = .slice none 0 0
  own : ∃ base, w.ownsRow base 75 33 v ps.length (cellsK ps)
/-- It stays where only rows of digests turn. -/
theorem TrO.turn {z : Int} {w w' : World} {t : Nat} {v : Value} {ps : List Pk} {B : List Nat} (h : TrO z w t v ps) (k : Kept B w w') (hB : ∀ b ∈ B, ∃ cs m, w.heap[b]? = some (.cells cs 41 m)) : TrO z w' t v ps := by
  have hne : ∀ (g : Nat) cs m (ty : TypeId), ty ≠ 41 → w.heap[g]? = some (.cells cs ty m) → g ∉ B := by
    intro g cs m ty ht h1 h2
    obtain ⟨cs2, m2, h3⟩ := hB g h2
    rw [h1] at h3
    injection h3 with h3
    injection h3 with _ h4 _
    exact ht h4
  obtain ⟨base, ho⟩ := h.own
  have hvb : ∀ g, v.ownBlock = some g → g ∉ B := by
    intro g hg
    rcases ho.2 with ⟨h9, _⟩ | ⟨g', cap', cur, e, hb, hgg, _⟩
    · subst h9; simp [Value.ownBlock] at hg
    · subst e
      simp only [Value.ownBlock, Option.some.injEq] at hg
      subst hg
      exact hne _ _ _ _ (by decide) hgg
  refine ⟨⟨k.heap h.tree.row (hne _ _ _ _ (by decide) h.tree.row), h.tree.wid, ?_, ⟨fun p hp => (h.tree.pk.ok p hp).kept k ?_, h.tree.pk.inc⟩⟩, h.nil, base, k.owns ho ?_⟩
  · obtain ⟨ao, cap, e, h1, h2, h3⟩ := h.tree.rd
    refine ⟨ao, cap, e, h1, h2, fun hp => ?_⟩
    obtain ⟨b, off, rfl, hc⟩ := h3 hp
    exact ⟨b, off, rfl, fun j u hj => k.cell (hc j u hj) (hvb b (by rw [e]; rfl))⟩
  · intro b hb cs m h9
    exact hne _ _ _ _ (by decide) h9 hb
  · exact fun g hg => hvb g hg
theorem TrO.old {z : Int} {w w' : World} {t : Nat} {v : Value} {ps : List Pk} (h : TrO z w t v ps) (k : Kept [] w w') : TrO z w' t v ps := h.turn k (by simp)
end Go.Proofs.YtecadmldnjlibaaDoor
namespace Go.Proofs.YtecadmldnjlibaaDoor
open Go.RowKit Go.BigFrame
set_option linter.unusedVariables false
set_option linter.unusedSimpArgs false

theorem lies_at {a b : Option Nat} {H k : Nat} (h : a = b ∨ a = some H) (hk : a = some k) : b = some k ∨ k = H := by
  rcases h with h | h
  · exact Or.inl (by rw [← h, hk])
  · right; rw [hk] at h; exact Option.some.inj h

theorem appendDL (w : World) (base : Nat) (v : Value) (ds ps : List (List Nat)) (ao : Option Addr) (n c : Nat) (h : w.ownsRow base 41 32 v ds.length (flatD ds)) (hr : RdD w (.slice ao n c) ps) (hl : ds.length + ps.length ≤ 1000000000000) (hb : base ≤ w.heap.size) :
    ∃ ao' cap' w1, (Builtin.append_ #[32, 32] 32 #[v, .slice ao n c]).run Tryd.prog w = .ok (.slice ao' (ds.length + ps.length) cap') w1 ∧
      w1.ownsRow base 41 32 (.slice ao' (ds.length + ps.length) cap') (ds ++ ps).length (flatD (ds ++ ps)) ∧ w.grownBy w1 v.ownBlock ∧ (∀ k, (Value.slice ao' (ds.length + ps.length) cap').ownBlock = some k → v.ownBlock = some k ∨ k = w.heap.size) := by
  obtain ⟨i0, hi, hz0, hz1, hz2⟩ := info_parts Tryd.infoD
  have hn := hr.nlP
  have hdg : ∀ d ∈ ps, d.length = 32 := fun d hd => (hr.dg hd).1
  rw [flatD_app, List.length_append]
  by_cases h0 : n = 0
  · subst h0
    have hp : ps = [] := List.eq_nil_of_length_eq_zero hn
    subst hp
    cases ao with
    | none =>
      have hrun := append_none (P := Tryd.prog) (w := w) base 32 32 41 i0 32 c Tryd.underlying32 hi v ds.length (flatD ds) h
      obtain ⟨ao', cap', rfl⟩ := owns_form h
      exact ⟨ao', cap', w, hrun, by simpa [flatD] using h, World.grownBy.refl _ _, fun k hk => Or.inl (by simpa using hk)⟩
    | some ad =>
      obtain ⟨v', w1, hrun, hown, hgrow, _, hat⟩ := run_append_own_at (P := Tryd.prog) w base 32 32 41 i0 (.agg (zb 32)) 32 32 Tryd.underlying32 hi hz0 hz1 hz2 (by show (zb 32).size = 32; exact zb_size 32) (by decide)
        v ds.length (flatD ds) h ad 0 c (flatD []) (by simp [flatD]) (by intro j u hj; simp [flatD] at hj) (flatD_one _) (by unfold maxLen; omega) (by omega) hb
      obtain ⟨ao', cap', rfl⟩ := owns_form hown
      exact ⟨ao', cap', w1, hrun, hown, hgrow, fun k hk => lies_at hat hk⟩
  · have hr' := hr
    obtain ⟨ao1, n1, c1, he, h1, h2, h3, h4, h5⟩ := hr'
    cases he
    obtain ⟨b, off, rfl, hc⟩ := h5 (by omega)
    obtain ⟨v', w1, hrun, hown, hgrow, _, hat⟩ := run_append_own_at (P := Tryd.prog) w base 32 32 41 i0 (.agg (zb 32)) 32 32 Tryd.underlying32 hi hz0 hz1 hz2 (by show (zb 32).size = 32; exact zb_size 32) (by decide)
      v ds.length (flatD ds) h ⟨b, off, none⟩ n c (flatD ps) (by rw [flatD_len hdg, hn]) hr.news (flatD_one _) (by unfold maxLen; omega) (by omega) hb
    subst h1
    obtain ⟨ao', cap', rfl⟩ := owns_form hown
    exact ⟨ao', cap', w1, hrun, hown, hgrow, fun k hk => lies_at hat hk⟩

end Go.Proofs.YtecadmldnjlibaaDoor
namespace Go.Proofs.YtecadmldnjlibaaDoor
open Go.RowKit Go.BigFrame
set_option linter.unusedVariables false
set_option linter.unusedSimpArgs false

/-- A beginning of an owned row of digests, with all its room, is owned. -/
theorem owns_takeD {w : World} {base : Nat} {a : Option Addr} {m c : Nat} {gs : List (List Nat)} (h : w.ownsRow base 41 32 (.slice a m c) gs.length (flatD gs)) (hd : ∀ d ∈ gs, d.length = 32) (n : Nat) (hn : n ≤ gs.length) : w.ownsRow base 41 32 (.slice a n c) (gs.take n).length (flatD (gs.take n)) := by
  have hl : (gs.take n).length = n := by rw [List.length_take]; omega
  have hf : (flatD (gs.take n)).length = n * 32 := by rw [flatD_len (fun d h => hd d (List.mem_of_mem_take h)), hl]
  refine ⟨by rw [hf, hl], ?_⟩
  rcases h.2 with ⟨h9, h0⟩ | ⟨g, cap, cur, h1, h2, h3, h4, h5, h6, h7⟩
  · cases h9
    exact .inl ⟨by rw [show n = 0 by omega], by omega⟩
  · cases h1
    refine .inr ⟨g, c, cur, by rw [hl], h2, h3, by omega, h5, h6, ?_⟩
    have e1 : flatD gs = flatD (gs.take n) ++ flatD (gs.drop n) := by rw [← flatD_app, List.take_append_drop]
    have e2 : cur.toList.take (n * 32) = (cur.toList.take (gs.length * 32)).take (n * 32) := by rw [List.take_take, Nat.min_eq_left (by omega)]
    rw [hl, e2, h7, e1, ← hf, List.take_left]
/-- Where a row lies behind an append: where it lay, or in memory that is new. -/
def Wnt (w : World) (v v' : Value) : Prop := (∃ a n m c, v = .slice a n c ∧ v' = .slice a m c) ∨ ∃ g, v'.ownBlock = some g ∧ w.heap.size ≤ g
/-- A digest behind a row that is owned: both rows are owned then. -/
theorem appendTwoD (w : World) (base : Nat) (v : Value) (ds : List (List Nat)) (X : List Nat) (g0 : Nat) (h : w.ownsRow base 41 32 v ds.length (flatD ds)) (hd : ∀ d ∈ ds, d.length = 32) (hnew : w.heap[g0]? = some (.cells (brow X) 41 (0, 0))) (hX : Dg X) (hl : ds.length ≤ 1000000) (hb : base ≤ w.heap.size) :
    ∃ ao' cap' w1, (Builtin.append_ #[32, 32] 32 #[v, .slice (some ⟨g0, 0, none⟩) 1 1]).run Tryd.prog w = .ok (.slice ao' (ds.length + 1) cap') w1 ∧
      w1.ownsRow base 41 32 (.slice ao' (ds.length + 1) cap') (ds ++ [X]).length (flatD (ds ++ [X])) ∧ w1.ownsRow base 41 32 v ds.length (flatD ds) ∧ w.grownBy w1 v.ownBlock ∧ Wnt w v (.slice ao' (ds.length + 1) cap') := by
  obtain ⟨i0, hi, hz0, hz1, hz2⟩ := info_parts Tryd.infoD
  have hfX : (flatD [X]).length = 1 * 32 := by rw [flatD_len (by intro d hd; rw [List.mem_singleton] at hd; subst hd; exact hX.1)]; rfl
  have hnews := (RdD.oneP hnew hX).news
  have hfa : flatD (ds ++ [X]) = flatD ds ++ flatD [X] := flatD_app _ _
  have hla : (ds ++ [X]).length = ds.length + 1 := by simp
  rw [hfa, hla]
  rcases h.2 with ⟨rfl, h0⟩ | ⟨g, cap, cur, rfl, hbg, hg, hc, hm, hs, ht⟩
  · obtain ⟨v', w1, hrun, hown, hgrow, _, hat⟩ := run_append_own_at (P := Tryd.prog) w base 32 32 41 i0 (.agg (zb 32)) 32 32 Tryd.underlying32 hi hz0 hz1 hz2 (by show (zb 32).size = 32; exact zb_size 32) (by decide)
      _ ds.length (flatD ds) h ⟨g0, 0, none⟩ 1 1 (flatD [X]) hfX hnews (flatD_one _) (by unfold maxLen; omega) (by omega) hb
    obtain ⟨ao', cap', rfl⟩ := owns_form hown
    have hbs : ds = [] := List.eq_nil_of_length_eq_zero h0
    subst hbs
    refine ⟨ao', cap', w1, hrun, hown, World.ownsRow_nil _ _ _ _, hgrow, ?_⟩
    rcases hown.2 with ⟨_, h9⟩ | ⟨g, cap, cur, h9, _⟩
    · simp at h9
    · rcases hat with h8 | h8
      · simp only [Value.slice.injEq] at h9
        obtain ⟨rfl, _⟩ := h9
        simp [Value.ownBlock] at h8
      · exact .inr ⟨_, h8, Nat.le_refl _⟩
  · by_cases hroom : ds.length + 1 ≤ cap
    · obtain ⟨w1, hrun, hown, hgrow⟩ := run_append_own_spare (P := Tryd.prog) w base 32 32 41 i0 32 Tryd.underlying32 hi hz1 g ds.length cap (flatD ds) h ⟨g0, 0, none⟩ 1 1 (flatD [X]) hfX hnews (flatD_one _) hroom
      have hnew2 : w1.ownsRow base 41 32 (.slice (some ⟨g, 0, none⟩) (ds.length + 1) cap) (ds ++ [X]).length (flatD (ds ++ [X])) := by rw [hfa, hla]; exact hown
      have h8 := owns_takeD hnew2 (by intro d hd'; rcases List.mem_append.1 hd' with h | h; exact hd d h; rw [List.mem_singleton] at h; subst h; exact hX.1) ds.length (by simp)
      rw [List.take_left] at h8
      exact ⟨_, _, w1, hrun, hown, h8, hgrow, .inl ⟨_, _, _, _, rfl, rfl⟩⟩
    · obtain ⟨v', w1, hrun, hown, hgrow⟩ := run_append_arg_grows (P := Tryd.prog) w 32 32 41 i0 (.agg (zb 32)) 32 32 Tryd.underlying32 hi hz0 hz1 hz2 (by show (zb 32).size = 32; exact zb_size 32) (by decide)
        ⟨g, 0, none⟩ ds.length cap (flatD ds) (flatD_len hd) (fun j u hj => h.cells (g := g) rfl j u hj) ⟨g0, 0, none⟩ 1 1 (flatD [X]) hfX hnews (by omega) (by unfold maxLen; omega) (by omega)
      obtain ⟨ao', cap', rfl⟩ := owns_form hown
      have hw : Wnt w (.slice (some ⟨g, 0, none⟩) ds.length cap) (.slice ao' (ds.length + 1) cap') := by
        rcases hown.2 with ⟨_, h8⟩ | ⟨g', cap2, cur2, h9, h8, _⟩
        · omega
        · simp only [Value.slice.injEq] at h9
          obtain ⟨rfl, _⟩ := h9
          exact .inr ⟨_, rfl, h8⟩
      exact ⟨ao', cap', w1, hrun, owns_baseK hown hb, ((Kept.refl [] w).grown hgrow (by simp)).owns h (by simp), ⟨hgrow.os, hgrow.tape, hgrow.output, hgrow.size, fun k hk _ => hgrow.block k hk (by simp)⟩, hw⟩
theorem wpList_appendTwoD {ops : Array Oper} {rest : List Oper} {o : Oper} {a : Act} {Q : Exit → Act → World → Prop} (hgd : o.guard = none) (s x : Operand)
    (ho : o.op = .call { callee := .builtin .append, args := #[s, x], argTypes := #[32, 32] }) (hty : o.type = 32)
    (w : World) (base : Nat) (v : Value) (ds : List (List Nat)) (X : List Nat) (g0 : Nat) (h : w.ownsRow base 41 32 v ds.length (flatD ds)) (hd : ∀ d ∈ ds, d.length = 32) (hnew : w.heap[g0]? = some (.cells (brow X) 41 (0, 0))) (hX : Dg X) (hl : ds.length ≤ 1000000) (hb : base ≤ w.heap.size)
    (hs : a.eval s = v) (hx : a.eval x = .slice (some ⟨g0, 0, none⟩) 1 1)
    (hK : ∀ ao' cap' w1, Hid (w1.ownsRow base 41 32 (.slice ao' (ds.length + 1) cap') (ds ++ [X]).length (flatD (ds ++ [X]))) → Hid (w1.ownsRow base 41 32 v ds.length (flatD ds)) → Hid (w.grownBy w1 v.ownBlock) → Hid (Wnt w v (.slice ao' (ds.length + 1) cap')) →
      wpList Tryd.prog ops Q rest (a.put o.dst (.slice ao' (ds.length + 1) cap')) w1) :
    wpList Tryd.prog ops Q (o :: rest) a w := by
  obtain ⟨ao', cap', w1, hrun, h2, h3, h4, h5⟩ := appendTwoD w base v ds X g0 h hd hnew hX hl hb
  refine wpList_plain hgd fun K hK' => ?_
  unfold Oper.wp execOp
  simp only [ho, hty, resolve, invoke, builtin, Sem.run_bind, Sem.run_pure, Result.andThen_ok, List.map_toArray, List.map_cons, List.map_nil, hs, hx, hrun]
  exact hK' _ _ (hK ao' cap' w1 h2 h3 h4 h5)

/-- Rows of unlike types lie in unlike blocks. -/
theorem own_ne {w : World} {B B' e e' s s' n n' : Nat} {v v' : Value} {xs xs' : List Value} (h : w.ownsRow B e s v n xs) (h' : w.ownsRow B' e' s' v' n' xs') (hne : e ≠ e') : ∀ b, v.ownBlock = some b → v'.ownBlock ≠ some b := by
  intro b hb hb'
  rcases h.2 with ⟨h9, _⟩ | ⟨g, cap, cur, h1, _, h3, _⟩
  · subst h9; simp [Value.ownBlock] at hb
  · rcases h'.2 with ⟨h9, _⟩ | ⟨g', cap', cur', h1', _, h3', _⟩
    · subst h9; simp [Value.ownBlock] at hb'
    · subst h1 h1'
      simp only [Value.ownBlock, Option.some.injEq] at hb hb'
      subst hb
      subst hb'
      rw [h3] at h3'
      injection h3' with h3'
      injection h3' with _ h4 _
      exact hne h4
theorem grown_keeps {w w1 : World} {row : Option Nat} (h : w.grownBy w1 row) : Kept row.toList w w1 := (Kept.refl row.toList w).grown h (fun k hk => Or.inl (by rw [hk]; simp))
theorem keeps_owns {w w1 : World} {row : Option Nat} {B e s n : Nat} {v : Value} {xs : List Value} (h : w.grownBy w1 row) (ho : w.ownsRow B e s v n xs) (hne : ∀ b, v.ownBlock = some b → row ≠ some b) : w1.ownsRow B e s v n xs :=
  (grown_keeps h).owns ho (by
    intro b hb hm
    cases row with
    | none => simp at hm
    | some x => simp at hm; subst hm; exact hne b hb rfl)

theorem Tryd.infoDs : (Tryd.prog.info? 32).map (fun i => (i.zero, i.size, i.bytes)) = some (some (.slice none 0 0), 1, 24) := by kernel_rfl
/-- Two lists behind a row of lists of digests that is owned. -/
theorem push2 (w : World) (base : Nat) (v : Value) (xs : List Value) (x y : Value) (H : Nat) (h : w.ownsRow base 32 1 v xs.length xs) (hnew : w.heap[H]? = some (.cells #[x, y] 32 (0, 0))) (hx : x.oneCell' = true) (hy : y.oneCell' = true) (hl : xs.length ≤ 1000000) (hb : base ≤ w.heap.size) :
    ∃ g cap w1, (Builtin.append_ #[31, 31] 31 #[v, .slice (some ⟨H, 0, none⟩) 2 2]).run Tryd.prog w = .ok (.slice (some ⟨g, 0, none⟩) (xs.length + 2) cap) w1 ∧
      w1.ownsRow base 32 1 (.slice (some ⟨g, 0, none⟩) (xs.length + 2) cap) (xs.length + 2) (xs ++ [x, y]) ∧ w.grownBy w1 v.ownBlock ∧ (v.ownBlock = some g ∨ g = w.heap.size) := by
  obtain ⟨i0, hi, hz0, hz1, hz2⟩ := info_parts Tryd.infoDs
  obtain ⟨g, cap, w1, hr, hown, hgrow, hat, hlt⟩ := run_append_lies (P := Tryd.prog) w 31 31 base 32 i0 (.slice none 0 0) 1 24 Tryd.underlying31 hi hz0 hz1 hz2 rfl (by decide)
    v xs.length xs h ⟨H, 0, none⟩ 2 2 [x, y] rfl (World.news_of_block hnew) (by intro u hu; simp only [List.mem_cons, List.not_mem_nil, or_false] at hu; rcases hu with rfl | rfl <;> assumption) (by decide) (by unfold maxLen; omega) (by omega) hb _ rfl
  exact ⟨g, cap, w1, hr, hown, hgrow, hat⟩
theorem wpList_push2 {ops : Array Oper} {rest : List Oper} {o : Oper} {a : Act} {Q : Exit → Act → World → Prop} (hgd : o.guard = none) (s x : Operand)
    (ho : o.op = .call { callee := .builtin .append, args := #[s, x], argTypes := #[31, 31] }) (hty : o.type = 31)
    (w : World) (base : Nat) (v : Value) (xs : List Value) (y z : Value) (H : Nat) (h : w.ownsRow base 32 1 v xs.length xs) (hnew : w.heap[H]? = some (.cells #[y, z] 32 (0, 0))) (hy : y.oneCell' = true) (hz : z.oneCell' = true) (hl : xs.length ≤ 1000000) (hb : base ≤ w.heap.size)
    (hs : a.eval s = v) (hx : a.eval x = .slice (some ⟨H, 0, none⟩) 2 2)
    (hK : ∀ g cap w1, Hid (w1.ownsRow base 32 1 (.slice (some ⟨g, 0, none⟩) (xs.length + 2) cap) (xs.length + 2) (xs ++ [y, z])) → Hid (w.grownBy w1 v.ownBlock) → Hid (v.ownBlock = some g ∨ g = w.heap.size) →
      wpList Tryd.prog ops Q rest (a.put o.dst (.slice (some ⟨g, 0, none⟩) (xs.length + 2) cap)) w1) :
    wpList Tryd.prog ops Q (o :: rest) a w := by
  obtain ⟨g, cap, w1, hrun, h2, h3, h4⟩ := push2 w base v xs y z H h hnew hy hz hl hb
  refine wpList_plain hgd fun K hK' => ?_
  unfold Oper.wp execOp
  simp only [ho, hty, resolve, invoke, builtin, Sem.run_bind, Sem.run_pure, Result.andThen_ok, List.map_toArray, List.map_cons, List.map_nil, hs, hx, hrun]
  exact hK' _ _ (hK g cap w1 h2 h3 h4)

/-- Lists of digests that were kept: the row of lists, and each list in memory of its own. -/
structure KM (B : Nat) (w : World) (kv : Value) (rows : List (Value × List (List Nat))) : Prop where
  hdr : w.ownsRow B 32 1 kv rows.length (rows.map (·.1))
  own : ∀ r ∈ rows, w.ownsRow B 41 32 r.1 r.2.length (flatD r.2)
  dg : ∀ r ∈ rows, ∀ d ∈ r.2, Dg d
  dif : ∀ (i j : Nat) (r s : Value × List (List Nat)), rows[i]? = some r → rows[j]? = some s → i ≠ j → ∀ b, r.1.ownBlock = some b → s.1.ownBlock ≠ some b
theorem KM.old {B : Nat} {w w' : World} {kv : Value} {rows : List (Value × List (List Nat))} (h : KM B w kv rows) (k : Kept [] w w') : KM B w' kv rows :=
  ⟨k.owns h.hdr (by simp), fun r hr => k.owns (h.own r hr) (by simp), h.dg, h.dif⟩
theorem KM.nil (B : Nat) (w : World) : KM B w (.slice none 0 0) [] := ⟨World.ownsRow_nil _ _ _ _, by simp, by simp, by intro i j r s hi; simp at hi⟩
/-- Two more. -/
theorem KM.push {B : Nat} {w w1 : World} {kv kv' : Value} {rows : List (Value × List (List Nat))} {p q : Value} {ps qs : List (List Nat)} (h : KM B w kv rows)
    (hp : w.ownsRow B 41 32 p ps.length (flatD ps)) (hq : w.ownsRow B 41 32 q qs.length (flatD qs)) (dp : ∀ d ∈ ps, Dg d) (dq : ∀ d ∈ qs, Dg d)
    (np : ∀ r ∈ rows, ∀ b, p.ownBlock = some b → r.1.ownBlock ≠ some b) (nq : ∀ r ∈ rows, ∀ b, q.ownBlock = some b → r.1.ownBlock ≠ some b) (npq : ∀ b, p.ownBlock = some b → q.ownBlock ≠ some b)
    (hg : w.grownBy w1 kv.ownBlock) (ho : w1.ownsRow B 32 1 kv' (rows.length + 2) (rows.map (·.1) ++ [p, q])) : KM B w1 kv' (rows ++ [(p, ps), (q, qs)]) := by
  have hk : ∀ {n : Nat} {v : Value} {xs : List Value}, w.ownsRow B 41 32 v n xs → w1.ownsRow B 41 32 v n xs := fun h9 => keeps_owns hg h9 (own_ne h9 h.hdr (by decide))
  refine ⟨by simpa using ho, ?_, ?_, ?_⟩
  · intro r hr
    rcases List.mem_append.1 hr with hr | hr
    · exact hk (h.own r hr)
    · simp only [List.mem_cons, List.not_mem_nil, or_false] at hr
      rcases hr with rfl | rfl
      · exact hk hp
      · exact hk hq
  · intro r hr
    rcases List.mem_append.1 hr with hr | hr
    · exact h.dg r hr
    · simp only [List.mem_cons, List.not_mem_nil, or_false] at hr
      rcases hr with rfl | rfl
      · exact dp
      · exact dq
  · have key : ∀ (i : Nat) (r : Value × List (List Nat)), (rows ++ [(p, ps), (q, qs)])[i]? = some r → (rows[i]? = some r ∧ r ∈ rows ∧ i < rows.length) ∨ (i = rows.length ∧ r = (p, ps)) ∨ (i = rows.length + 1 ∧ r = (q, qs)) := by
      intro i r hi
      rcases Nat.lt_or_ge i rows.length with h9 | h9
      · rw [List.getElem?_append_left h9] at hi
        exact Or.inl ⟨hi, List.mem_of_getElem? hi, h9⟩
      · rw [List.getElem?_append_right h9] at hi
        rcases (by omega : i - rows.length = 0 ∨ i - rows.length = 1 ∨ 2 ≤ i - rows.length) with h8 | h8 | h8
        · rw [h8] at hi
          simp at hi
          exact Or.inr (Or.inl ⟨by omega, hi.symm⟩)
        · rw [h8] at hi
          simp at hi
          exact Or.inr (Or.inr ⟨by omega, hi.symm⟩)
        · rw [List.getElem?_eq_none (by simp; omega)] at hi
          simp at hi
    intro i j r s hi hj hij b hb hs
    rcases key i r hi with ⟨h1, h1m, h1l⟩ | ⟨h1, rfl⟩ | ⟨h1, rfl⟩ <;> rcases key j s hj with ⟨h2, h2m, h2l⟩ | ⟨h2, rfl⟩ | ⟨h2, rfl⟩
    · exact h.dif i j r s h1 h2 hij b hb hs
    · exact np r h1m b hs hb
    · exact nq r h1m b hs hb
    · exact np s h2m b hb hs
    · omega
    · exact npq b hb hs
    · exact nq s h2m b hb hs
    · exact npq b hs hb
    · omega
/-- How the row that is grown lies to one that was kept: elsewhere, or the kept one is its beginning. -/
def Pre (r : Value × List (List Nat)) (gv : Value) (gs : List (List Nat)) : Prop := (∀ b, r.1.ownBlock = some b → gv.ownBlock ≠ some b) ∨ ∃ a m c, r.1 = .slice a r.2.length c ∧ gv = .slice a m c ∧ r.2 = gs.take r.2.length ∧ r.2.length ≤ gs.length
structure GM (B : Nat) (w : World) (kv : Value) (rows : List (Value × List (List Nat))) (gv : Value) (gs : List (List Nat)) : Prop where
  km : KM B w kv rows
  gown : w.ownsRow B 41 32 gv gs.length (flatD gs)
  gdg : ∀ d ∈ gs, Dg d
  pre : ∀ r ∈ rows, Pre r gv gs
theorem GM.start {B : Nat} {w : World} {kv : Value} {rows : List (Value × List (List Nat))} {k : Nat} {r : Value × List (List Nat)} (h : KM B w kv rows) (hr : rows[k]? = some r) : GM B w kv rows r.1 r.2 := by
  have hm := List.mem_of_getElem? hr
  refine ⟨h, h.own r hm, h.dg r hm, fun s hs => ?_⟩
  obtain ⟨j, hj⟩ := List.mem_iff_getElem?.1 hs
  by_cases hjk : j = k
  · subst hjk
    rw [hr] at hj
    injection hj with hj
    subst hj
    obtain ⟨a, c, e⟩ := owns_form (h.own r hm)
    exact Or.inr ⟨a, _, c, e, e, by rw [List.take_length], Nat.le_refl _⟩
  · exact Or.inl (fun b hb => h.dif j k s r hj hr hjk b hb)
theorem GM.old {B : Nat} {w w' : World} {kv gv : Value} {rows : List (Value × List (List Nat))} {gs : List (List Nat)} (h : GM B w kv rows gv gs) (k : Kept [] w w') : GM B w' kv rows gv gs :=
  ⟨h.km.old k, k.owns h.gown (by simp), h.gdg, h.pre⟩
theorem GM.push {B : Nat} {w w1 : World} {kv gv gv' : Value} {rows : List (Value × List (List Nat))} {gs : List (List Nat)} {X : List Nat} (h : GM B w kv rows gv gs) (hX : Dg X) (h1 : w1.ownsRow B 41 32 gv' (gs ++ [X]).length (flatD (gs ++ [X]))) (h2 : w1.ownsRow B 41 32 gv gs.length (flatD gs)) (hg : w.grownBy w1 gv.ownBlock) (hw : Wnt w gv gv') : GM B w1 kv rows gv' (gs ++ [X]) := by
  refine ⟨⟨keeps_owns hg h.km.hdr (own_ne h.km.hdr h.gown (by decide)), fun r hr => ?_, h.km.dg, h.km.dif⟩, h1, ?_, fun r hr => ?_⟩
  · rcases h.pre r hr with h9 | ⟨a, m, c, e1, e2, e3, e4⟩
    · exact keeps_owns hg (h.km.own r hr) h9
    · have h8 := owns_takeD (a := a) (m := m) (c := c) (by rw [← e2]; exact h2) (fun d hd => (h.gdg d hd).1) r.2.length e4
      rw [← e3] at h8
      rw [e1]
      exact h8
  · intro d hd
    rcases List.mem_append.1 hd with hd | hd
    · exact h.gdg d hd
    · rw [List.mem_singleton] at hd; subst hd; exact hX
  · rcases hw with ⟨a9, n9, m9, c9, e8, e9⟩ | ⟨g9, e9, hge⟩
    · rcases h.pre r hr with h9 | ⟨a, m, c, e1, e2, e3, e4⟩
      · refine Or.inl (fun b hb => ?_)
        have := h9 b hb
        rw [e8] at this
        rw [e9]
        cases a9 with
        | none => simp [Value.ownBlock]
        | some x => simpa [Value.ownBlock] using this
      · rw [e2] at e8
        simp only [Value.slice.injEq] at e8
        obtain ⟨rfl, _, rfl⟩ := e8
        exact Or.inr ⟨a, m9, c, e1, e9, by rw [List.take_append_of_le_length e4]; exact e3, by simp; omega⟩
    · refine Or.inl (fun b hb e => ?_)
      rw [e9] at e
      injection e with e
      subst e
      have := ((h.km.own r hr).lt g9 hb).2
      omega
end Go.Proofs.YtecadmldnjlibaaDoor
namespace Go.Proofs.YtecadmldnjlibaaDoor
open Go.RowKit Go.BigFrame
set_option linter.unusedVariables false
set_option linter.unusedSimpArgs false

theorem OwD.back {w0 w w' : World} {v : Value} {ds : List (List Nat)} (h : OwD w w' v ds) (k : Kept [] w0 w) : OwD w0 w' v ds := by
  refine ⟨⟨h.own.1, ?_⟩, h.dg, k.trans h.kept (by simp)⟩
  rcases h.own.2 with h1 | ⟨g, cap, cur, h1, h2, h3⟩
  · exact Or.inl h1
  · exact Or.inr ⟨g, cap, cur, h1, Nat.le_trans k.size h2, h3⟩
theorem OwD.form {w0 w : World} {v : Value} {ds : List (List Nat)} (h : OwD w0 w v ds) : ∃ ao cap, v = .slice ao ds.length cap := owns_form h.own
theorem OwD.zero {w0 w : World} (k : Kept [] w0 w) : OwD w0 w (.slice none 0 0) [] := (OwD.nil w).back k

/-- What Inclusion answers. -/
def inE (L : List (List Nat)) (i n : Nat) : Int := if n ≤ i ∨ L.length < n then 4 else 0
def inD (z : Int) (L : List (List Nat)) (i n : Nat) : List (List Nat) := if n ≤ i ∨ L.length < n then [] else rgL z L (pathF i 64 0 n)

set_option maxRecDepth 100000 in
set_option maxHeartbeats 400000 in
theorem mincl_any (z : Int) (t : Nat) (v : Value) (ps : List Pk) (i n : Nat) (w : World) (hT : TreeAt z w t v ps) (hb : (leavesK ps).length < 32768) (hTb : Tabs w) (h6 : Tab6 w) (hn64 : n < 18446744073709551616) :
    Calls Tryd.prog 19 #[.pointer (some ⟨t, 0, none⟩), .int .u64 i, .int .u64 n] w fun e w' => ∃ u, e = .returned (.tuple #[u, .int .i64 (inE (leavesK ps) i n)]) ∧ OwD w w' u (inD z (leavesK ps) i n) := by
  unfold inE inD
  by_cases h1 : n ≤ i
  · have h1' : (n : Int) ≤ (i : Int) := by omega
    rw [if_pos (Or.inl h1), if_pos (Or.inl h1)]
    go_enter Tryd.func19, Tryd.ntmps19
    go_wp2_with fail
    exact ⟨rfl, _, results_tmp2 rfl _ _ _, _, rfl, OwD.nil _⟩
  · have h1' : ¬ (n : Int) ≤ (i : Int) := by omega
    have HPA := hide (path_any i n w (by omega) hn64)
    have hpl := pathF_len i 64 0 n
    by_cases h2 : (leavesK ps).length < n
    · rw [if_pos (Or.inr h2), if_pos (Or.inr h2)]
      have HDB := hide (fun lv W (k : Kept [] w W) => digests_bad z t v lv ps n W (hT.old k) h2)
      clear hT h2
      go_enter Tryd.func19, Tryd.ntmps19
      go_wp2_with fail
      refine (unhide HPA).mono ?_
      rintro e w1 ⟨v1, rfl, s1, k1⟩
      have HK1 := hide k1
      clear s1 k1
      go_wp2_with fail
      refine (unhide HDB v1 w1 (unhide HK1)).mono ?_
      rintro e w2 ⟨rfl, k2⟩
      have HK2 := hide ((unhide HK1).trans k2 (by simp))
      clear k2
      go_wp2_with fail
      exact ⟨rfl, _, results_tmp2 rfl _ _ _, _, rfl, OwD.zero (unhide HK2)⟩
    · rw [if_neg (by omega), if_neg (by omega)]
      have HDB := hide (fun lv w0 W (k : Kept [] w W) (hs : SpAt w0 W lv (pathF i 64 0 n)) => digests_any z t v lv ps n _ w0 W (hT.old k) (by omega) hb hs (by omega) (hTb.kept k (by simp) (by simp)) (h6.kept k))
      clear hT h2 hb hTb h6
      generalize pathF i 64 0 n = ss at HPA HDB hpl ⊢
      generalize rgL z (leavesK ps) ss = ds at HDB ⊢
      go_enter Tryd.func19, Tryd.ntmps19
      go_wp2_with fail
      refine (unhide HPA).mono ?_
      rintro e w1 ⟨v1, rfl, s1, k1⟩
      have HK1 := hide k1
      have HS1 := hide s1
      clear s1 k1
      go_wp2_with fail
      refine (unhide HDB v1 w w1 (unhide HK1) (unhide HS1)).mono ?_
      rintro e w2 ⟨u, rfl, o2⟩
      have HO2 := hide (o2.back (unhide HK1))
      clear o2
      go_wp2_with fail
      exact ⟨rfl, _, results_tmp2 rfl _ _ _, u, rfl, unhide HO2⟩

/-- What Consistency answers. -/
def csE (L : List (List Nat)) (m n : Nat) : Int := if n < m ∨ L.length < n then 4 else 0
def csD (z : Int) (L : List (List Nat)) (m n : Nat) : List (List Nat) := if n < m ∨ L.length < n then [] else rgL z L (smL m n)
theorem smL_le (m n : Nat) : (smL m n).length ≤ 65 := by
  unfold smL
  have := seamF_len m 64 0 n true
  split
  · simp
  · omega

set_option maxRecDepth 100000 in
set_option maxHeartbeats 400000 in
theorem mcons_any (z : Int) (t : Nat) (v : Value) (ps : List Pk) (i n : Nat) (w : World) (hT : TreeAt z w t v ps) (hb : (leavesK ps).length < 32768) (hTb : Tabs w) (h6 : Tab6 w) (hn64 : n < 18446744073709551616) :
    Calls Tryd.prog 20 #[.pointer (some ⟨t, 0, none⟩), .int .u64 i, .int .u64 n] w fun e w' => ∃ u, e = .returned (.tuple #[u, .int .i64 (csE (leavesK ps) i n)]) ∧ OwD w w' u (csD z (leavesK ps) i n) := by
  unfold csE csD
  by_cases h1 : n < i
  · have h1' : (n : Int) < (i : Int) := by omega
    rw [if_pos (Or.inl h1), if_pos (Or.inl h1)]
    go_enter Tryd.func20, Tryd.ntmps20
    go_wp2_with fail
    exact ⟨rfl, _, results_tmp2 rfl _ _ _, _, rfl, OwD.nil _⟩
  · have h1' : ¬ (n : Int) < (i : Int) := by omega
    have HPA := hide (seam_any i n w (by omega) hn64)
    have hpl := smL_le i n
    by_cases h2 : (leavesK ps).length < n
    · rw [if_pos (Or.inr h2), if_pos (Or.inr h2)]
      have HDB := hide (fun lv W (k : Kept [] w W) => digests_bad z t v lv ps n W (hT.old k) h2)
      clear hT h2
      go_enter Tryd.func20, Tryd.ntmps20
      go_wp2_with fail
      refine (unhide HPA).mono ?_
      rintro e w1 ⟨v1, rfl, s1, k1⟩
      have HK1 := hide k1
      clear s1 k1
      go_wp2_with fail
      refine (unhide HDB v1 w1 (unhide HK1)).mono ?_
      rintro e w2 ⟨rfl, k2⟩
      have HK2 := hide ((unhide HK1).trans k2 (by simp))
      clear k2
      go_wp2_with fail
      exact ⟨rfl, _, results_tmp2 rfl _ _ _, _, rfl, OwD.zero (unhide HK2)⟩
    · rw [if_neg (by omega), if_neg (by omega)]
      have HDB := hide (fun lv w0 W (k : Kept [] w W) (hs : SpAt w0 W lv (smL i n)) => digests_any z t v lv ps n _ w0 W (hT.old k) (by omega) hb hs (by omega) (hTb.kept k (by simp) (by simp)) (h6.kept k))
      clear hT h2 hb hTb h6
      generalize smL i n = ss at HPA HDB hpl ⊢
      generalize rgL z (leavesK ps) ss = ds at HDB ⊢
      go_enter Tryd.func20, Tryd.ntmps20
      go_wp2_with fail
      refine (unhide HPA).mono ?_
      rintro e w1 ⟨v1, rfl, s1, k1⟩
      have HK1 := hide k1
      have HS1 := hide s1
      clear s1 k1
      go_wp2_with fail
      refine (unhide HDB v1 w w1 (unhide HK1) (unhide HS1)).mono ?_
      rintro e w2 ⟨u, rfl, o2⟩
      have HO2 := hide (o2.back (unhide HK1))
      clear o2
      go_wp2_with fail
      exact ⟨rfl, _, results_tmp2 rfl _ _ _, u, rfl, unhide HO2⟩
end Go.Proofs.YtecadmldnjlibaaDoor
namespace Go.Proofs.YtecadmldnjlibaaDoor
open Go.RowKit Go.BigFrame
set_option linter.unusedVariables false
set_option linter.unusedSimpArgs false

/-- How many nodes a level has. -/
def lvN (N h : Nat) : Nat := (N + 2 ^ h - 1) / 2 ^ h
theorem lt_lvN {N h b : Nat} : b < lvN N h ↔ b * 2 ^ h < N := by
  have hp : 1 ≤ 2 ^ h := Nat.one_le_two_pow
  unfold lvN
  have h1 : b < (N + 2 ^ h - 1) / 2 ^ h ↔ b + 1 ≤ (N + 2 ^ h - 1) / 2 ^ h := Iff.rfl
  rw [h1, Nat.le_div_iff_mul_le (by omega), Nat.add_mul, Nat.one_mul]
  omega
theorem lvN_up (N h : Nat) : lvN N (h + 1) = (lvN N h + 1) / 2 := by
  have key : ∀ j, j < lvN N (h + 1) ↔ j < (lvN N h + 1) / 2 := by
    intro j
    rw [lt_lvN, show j * 2 ^ (h + 1) = (2 * j) * 2 ^ h by rw [Nat.pow_succ, Nat.mul_comm (2 ^ h) 2, ← Nat.mul_assoc, Nat.mul_comm j 2], ← lt_lvN]
    omega
  rcases Nat.lt_trichotomy (lvN N (h + 1)) ((lvN N h + 1) / 2) with h1 | h1 | h1
  · have := (key _).2 h1; omega
  · exact h1
  · have := (key _).1 h1; omega
/-- A level of the tree. -/
def lvl (z : Int) (no : List Nat) (L : List (List Nat)) (h : Nat) : List (List Nat) := (List.range (lvN L.length h)).map fun j => rngD z no L (j * 2 ^ h) (min ((j + 1) * 2 ^ h) L.length)
theorem lvl_len (z : Int) (no : List Nat) (L : List (List Nat)) (h : Nat) : (lvl z no L h).length = lvN L.length h := by unfold lvl; rw [List.length_map, List.length_range]
theorem lvl_at {z : Int} {no : List Nat} {L : List (List Nat)} {h j : Nat} (hj : j * 2 ^ h < L.length) : (lvl z no L h)[j]? = some (rngD z no L (j * 2 ^ h) (min ((j + 1) * 2 ^ h) L.length)) := by
  unfold lvl
  rw [List.getElem?_map, List.getElem?_range (lt_lvN.2 hj)]; rfl
theorem lvl_getD {z : Int} {no : List Nat} {L : List (List Nat)} {h j : Nat} (hj : j * 2 ^ h < L.length) : (lvl z no L h).getD j [] = rngD z no L (j * 2 ^ h) (min ((j + 1) * 2 ^ h) L.length) := by
  rw [List.getD_eq_getElem?_getD, lvl_at hj]; rfl
theorem lvl_zero (z : Int) (no : List Nat) (L : List (List Nat)) : lvl z no L 0 = L := by
  apply List.ext_getElem?
  intro j
  by_cases hj : j < L.length
  · rw [lvl_at (by simpa using hj), List.getElem?_eq_getElem hj]
    have e : min ((j + 1) * 2 ^ 0) L.length = j + 1 := by rw [Nat.pow_zero, Nat.mul_one]; omega
    rw [e, Nat.pow_zero, Nat.mul_one]
    unfold rngD
    rw [Nat.add_sub_cancel_left, List.drop_eq_getElem_cons hj, List.take_succ_cons, List.take_zero, logT_one]
  · rw [List.getElem?_eq_none (by rw [lvl_len]; have := (lt_lvN (N := L.length) (h := 0) (b := j)).1; simp at this; omega), List.getElem?_eq_none (by omega)]
/-- The level above. -/
def upL (z : Int) : List (List Nat) → List (List Nat)
  | a :: b :: r => nodS z a b :: upL z r
  | [a] => [a]
  | [] => []
theorem upL_at (z : Int) : ∀ (ls : List (List Nat)) (j : Nat), (upL z ls)[j]? = if 2 * j + 1 < ls.length then some (nodS z (ls.getD (2 * j) []) (ls.getD (2 * j + 1) [])) else if 2 * j < ls.length then some (ls.getD (2 * j) []) else none
  | [], j => by simp [upL]
  | [a], 0 => by simp [upL]
  | [a], j + 1 => by simp [upL]
  | a :: b :: r, 0 => by simp [upL]
  | a :: b :: r, j + 1 => by
    have ih := upL_at z r j
    rw [upL, List.getElem?_cons_succ, ih]
    simp only [List.length_cons, show 2 * (j + 1) = 2 * j + 1 + 1 by omega, List.getD_cons_succ]
    simp only [Nat.add_lt_add_iff_right]
theorem upL_len (z : Int) : ∀ (ls : List (List Nat)), (upL z ls).length = (ls.length + 1) / 2
  | [] => rfl
  | [a] => by simp [upL]
  | a :: b :: r => by rw [upL, List.length_cons, upL_len z r]; simp; omega
theorem lvl_up (z : Int) (no : List Nat) (L : List (List Nat)) (h : Nat) : upL z (lvl z no L h) = lvl z no L (h + 1) := by
  apply List.ext_getElem?
  intro j
  have hp : 1 ≤ 2 ^ h := Nat.one_le_two_pow
  have hps : 2 ^ (h + 1) = 2 * 2 ^ h := by rw [Nat.pow_succ]; omega
  have ej : j * 2 ^ (h + 1) = 2 * j * 2 ^ h := by rw [hps, ← Nat.mul_assoc, Nat.mul_comm j 2]
  have ej1 : (j + 1) * 2 ^ (h + 1) = 2 * j * 2 ^ h + 2 * 2 ^ h := by rw [hps, Nat.add_mul, Nat.one_mul, ← Nat.mul_assoc, Nat.mul_comm j 2]
  have ek : (2 * j + 1) * 2 ^ h = 2 * j * 2 ^ h + 2 ^ h := by rw [Nat.add_mul, Nat.one_mul]
  have ek1 : (2 * j + 1 + 1) * 2 ^ h = 2 * j * 2 ^ h + 2 * 2 ^ h := by rw [Nat.add_assoc, Nat.add_mul]
  rw [upL_at, lvl_len]
  by_cases h1 : 2 * j + 1 < lvN L.length h
  · have h1' := lt_lvN.1 h1
    rw [if_pos h1, lvl_getD (lt_lvN.1 (by omega)), lvl_getD h1', lvl_at (by rw [ej]; rw [ek] at h1'; omega)]
    rw [ek] at h1'
    rw [ej, ej1, ek, ek1]
    generalize 2 * j * 2 ^ h = lo at h1' ⊢
    have hm : min (lo + 2 ^ h) L.length = lo + 2 ^ h := by omega
    obtain ⟨hi, hhi⟩ : ∃ hi, min (lo + 2 * 2 ^ h) L.length = hi := ⟨_, rfl⟩
    have hi1 : lo + 2 ^ h < hi := by omega
    have hi2 : hi ≤ lo + 2 * 2 ^ h := by omega
    have hi3 : hi ≤ L.length := by omega
    rw [hm, hhi]
    have hbel : belT (hi - lo) = 2 ^ h := by
      unfold belT
      congr 1
      rw [Nat.log2_eq_iff (by omega)]
      omega
    rw [rngD_cut (lo := lo) (hi := hi) (by omega) hi3, hbel]
    rfl
  · rw [if_neg h1]
    by_cases h2 : 2 * j < lvN L.length h
    · have h2' := lt_lvN.1 h2
      have h1' : ¬ (2 * j + 1) * 2 ^ h < L.length := fun hh => h1 (lt_lvN.2 hh)
      rw [if_pos h2, lvl_getD h2', lvl_at (by rw [ej]; exact h2'), ej, ej1, ek]
      rw [ek] at h1'
      congr 2
      omega
    · rw [if_neg h2, List.getElem?_eq_none (by rw [lvl_len, lvN_up]; omega)]
theorem rngD_take {z : Int} {no : List Nat} {L : List (List Nat)} {n lo hi : Nat} (h : hi ≤ n) : rngD z no (L.take n) lo hi = rngD z no L lo hi := by
  unfold rngD
  rw [List.drop_take, List.take_take, Nat.min_eq_left (by omega)]
theorem levs_stop {N i h : Nat} (hi : i < N) (hN : N ≤ 2 ^ h) : ∀ d, levs N i (h + d) = levs N i h
  | 0 => rfl
  | d + 1 => by
    rw [← Nat.add_assoc, levs_succ, levs_stop hi hN d]
    have hpp : 2 ^ h ≤ 2 ^ (h + d) := Nat.pow_le_pow_right (by omega) (by omega)
    have : broS N i (h + d) = none := by
      unfold broS broN
      rw [Nat.div_eq_of_lt (by omega), if_pos rfl, if_neg (by omega)]
    rw [this]; simp
/-- The proof that the reference answers. -/
theorem inD_levs {z : Int} {L : List (List Nat)} {i n : Nat} (hi : i < n) (hn : n ≤ L.length) (h64 : n < 18446744073709551616) : inD z L i n = (levs n i 64).map fun s => rngD z (noT z) (L.take n) s.1 s.2 := by
  unfold inD
  rw [if_neg (by omega), ← path_all hi (by omega)]
  unfold rgL
  apply List.map_congr_left
  intro s hs
  have h1 := pathF_in i 64 0 n s hs
  unfold rgD
  rw [if_neg (by omega), rngD_take h1.2.2]
end Go.Proofs.YtecadmldnjlibaaDoor
namespace Go.Proofs.YtecadmldnjlibaaDoor
open Go.RowKit Go.BigFrame
set_option linter.unusedVariables false
set_option linter.unusedSimpArgs false

def cI (k i : Nat) (d : List Nat) : List Nat := (d.take k ++ List.replicate (i - k) 0) ++ d.drop i
theorem cI_len {k i : Nat} {d : List Nat} (h : k ≤ i) (hi : i ≤ 32) (hd : d.length = 32) : (cI k i d).length = 32 := by simp [cI, hd]; omega
theorem cI_set {k i : Nat} {d : List Nat} (h : k ≤ i) (hi : i < 32) (hd : d.length = 32) : (brow (cI k i d)).setIfInBounds i (.int .u8 0) = brow (cI k (i + 1) d) := by
  have hA : (d.take k ++ List.replicate (i - k) 0).length = i := by simp [hd]; omega
  have e1 : (cI k i d).set i 0 = cI k (i + 1) d := by
    unfold cI
    rw [List.set_append_right _ _ (by omega), hA, Nat.sub_self, List.drop_eq_getElem_cons (show i < d.length by omega), List.set_cons_zero, show i + 1 - k = (i - k) + 1 by omega, List.replicate_succ']
    simp
  rw [← e1]
  unfold brow
  rw [List.setIfInBounds_toArray, List.map_set]
  rfl
theorem cI_end {k : Nat} {d : List Nat} (hd : d.length = 32) : cI k 32 d = cutL k d := by unfold cI cutL; rw [List.drop_eq_nil_of_le (by omega), List.append_nil]
theorem cI_start {k : Nat} {d : List Nat} : cI k k d = d := by simp [cI]

theorem wpList_load_midT {P : Program} {ops : Array Oper} {rest : List Oper} {op : Oper} {a : Act} {w : World} {Q : Exit → Act → World → Prop} (hw : Region.wanted op (yielded ops a.tmps) = true) (ty : TypeId) (x : Operand) (ho : op.op = .load ty x)
    (b o : Nat) (hx : a.eval x = .pointer (some ⟨b, o, none⟩)) (cs : List Value) (d : TypeDesc) (hc : w.rangeAt b o cs)
    (hu : P.underlying ty = some d) (hd : d.isRow = true) (hi : (P.info? ty).map (·.size) = some cs.length)
    (h : wpList P ops Q rest (a.put op.dst (.agg cs.toArray)) w) : wpList P ops Q (op :: rest) a w :=
  wpList_want hw fun _ hK => wp_load_mid ty x ho b o hx cs d hc hu hd hi (hK _ _ h)
theorem RdD_nil {w : World} : RdD w (.slice none 0 0) [] := ⟨none, 0, 0, rfl, rfl, Nat.le_refl _, by omega, fun d hd => by simp at hd, fun h => by omega⟩
theorem cutL_cut2 {k : Nat} {d : List Nat} (hk : k ≤ 32) (hd : d.length = 32) : cutL k (cutL k d) = cutL k d := cutL_cutL k d (by omega)
theorem cut_dg {k : Nat} {d : List Nat} (hk : k ≤ 32) (hd : Dg d) : Dg (cutL k d) := ⟨cutL_len k d hk hd.1, cutL_byte k d hd.2⟩
theorem cut_form {k : Nat} {d : List Nat} (h1 : 1 ≤ k) (hk : k ≤ 32) (hd : Dg d) : formB (k : Int) (cutL k d) = true := by
  have hw : widthB (k : Int) = true := by simp [widthB]; omega
  unfold formB
  rw [hw, Int.toNat_natCast, cutL_cut2 hk hd.1]
  simp

end Go.Proofs.YtecadmldnjlibaaDoor
namespace Go.Proofs.YtecadmldnjlibaaDoor
open Go.RowKit Go.BigFrame
set_option linter.unusedVariables false
set_option linter.unusedSimpArgs false

/-- What the statements' tree answers. -/
def TrD (z : Int) (ls : List (List Nat)) (w : World) (e : Ending) (w' : World) : Prop :=
  (widthB z = false → e = .returned (.tuple #[.pointer none, .slice none 0 0, .bool false]) ∧ Kept [] w w') ∧
  (widthB z = true → ∃ t v qs u, e = .returned (.tuple #[.pointer (some ⟨t, 0, none⟩), u, .bool true]) ∧ TreeAt z w' t v qs ∧ leavesK qs = ls.map (cutL z.toNat) ∧ OwD w w' u (ls.map (cutL z.toNat)))
theorem cut_all {k : Nat} (h1 : 1 ≤ k) (h2 : k ≤ 32) {ls : List (List Nat)} (h : ∀ d ∈ ls, Dg d) : (ls.map (cutL k)).all (formB (k : Int)) = true := by
  rw [List.all_eq_true]
  intro x hx
  obtain ⟨d, hd, rfl⟩ := List.mem_map.1 hx
  exact cut_form h1 h2 (h d hd)

set_option maxRecDepth 100000 in
set_option maxHeartbeats 1000000 in
theorem tree_bad (z : Int) (lv : Value) (ls : List (List Nat)) (w : World) (hz : -9223372036854775808 ≤ z ∧ z ≤ 9223372036854775807) (hw : widthB z = false) :
    Calls Tryd.prog 16 #[.int .i64 z, lv] w (TrD z ls w) := by
  have HW := hide (rwidth_any z w hz)
  rw [hw] at HW
  have HF := hide hw
  clear hw hz
  go_enter Tryd.func16, Tryd.ntmps16
  go_wp2_with fail
  refine (unhide HW).mono ?_
  rintro e w1 ⟨rfl, rfl⟩
  go_wp2_with fail
  exact ⟨rfl, _, results_tmp3 rfl _ _ _, fun _ => ⟨rfl, Kept.refl _ _⟩, fun h => by rw [unhide HF] at h; simp at h⟩

set_option maxRecDepth 100000 in
set_option maxHeartbeats 1000000 in
theorem tree_ok (k : Nat) (lv : Value) (ls : List (List Nat)) (w : World) (h1 : 1 ≤ k) (h2 : k ≤ 32) (hl : RdD w lv ls) (hN : ls.length ≤ 1000000) (hT : Tabs w) (h6 : Tab6 w) :
    Calls Tryd.prog 16 #[.int .i64 (k : Int), lv] w (TrD (k : Int) ls w) := by
  have hwb : widthB (k : Int) = true := by simp [widthB]; omega
  have HW := hide (rwidth_any (k : Int) w (by omega))
  rw [hwb] at HW
  have HWB := hide hwb
  have HTB := hide hT
  have H6 := hide h6
  have HL := hide hl
  have HDG := hide (fun d hd => hl.dg (d := d) hd)
  obtain ⟨la, ll, lc, rfl, l1, l2, l3, l4, l5⟩ := hl
  subst l1
  clear hT h6 l4 l5 hwb
  go_enter Tryd.func16, Tryd.ntmps16
  go_wp2_with fail
  refine (unhide HW).mono ?_
  rintro e w1 ⟨rfl, rfl⟩
  go_wp2_with fail
  go_loopw [7, 18] (fun t7 t18 wr => ∃ (i : Nat), i ≤ ls.length ∧ t18 = .int .i64 (i : Int) ∧ Hid (OwD w1 wr t7 ((ls.take i).map (cutL k)))) (fun _ t _ => ls.length - (intOf t).toNat)
  case atStart => exact ⟨0, Nat.zero_le _, rfl, hide (OwD.nil _)⟩
  case round =>
    obtain ⟨i, hi, rfl, HO⟩ := hrel
    by_cases hlt : i < ls.length
    · have hlt' : (i : Int) < (ls.length : Int) := by omega
      obtain ⟨_, _, _, he, hel, _, _, _, hcell⟩ := (unhide HL).old (unhide HO).kept
      cases he
      obtain ⟨b, o, rfl, hc⟩ := hcell (by omega)
      have HC := hide (hc i hlt)
      have hgd : ls.getD i [] = ls[i] := by rw [List.getD_eq_getElem?_getD, List.getElem?_eq_getElem hlt]; rfl
      rw [hgd] at HC
      have HDi := hide (unhide HDG ls[i] (List.getElem_mem hlt))
      have HSN := hide (by rw [List.take_add_one, List.getElem?_eq_getElem hlt, List.map_append]; rfl : (ls.take (i + 1)).map (cutL k) = (ls.take i).map (cutL k) ++ [cutL k ls[i]])
      have HLN := hide (by rw [List.length_map, List.length_take]; omega : ((ls.take i).map (cutL k)).length + 1 ≤ 10000000)
      generalize ls[i] = d at HC HDi HSN
      generalize (ls.take i).map (cutL k) = ds at HO HSN HLN
      have hdl := (unhide HDi).1
      have HCE := hide (cI_end (k := k) hdl)
      have hcl := cutL_len k d h2 hdl
      have HCD := hide (cut_dg h2 (unhide HDi))
      obtain ⟨ua, ucap, rfl⟩ := owns_form (unhide HO).own
      have ia : ¬ (i : Int) < 0 := by omega
      have ib : ¬ (ls.length : Int) ≤ i := by omega
      clear hc hcell hel
      obtain ⟨wx, hwx⟩ : ∃ wx, wx = wr := ⟨_, rfl⟩
      subst hwx
      have HN0 := hide (cell_new wx d)
      have HK0 := hide (kept_old wx d)
      obtain ⟨wb, hwb⟩ : ∃ wb, (wx.alloc (.cells (zb 32) 41)).setRow wx.heap.size (brow d) = wb := ⟨_, rfl⟩
      rw [hwb] at HN0 HK0
      have HWBE := hide hwb
      clear hwb
      go_wp2_with (first
        | (refine wpList_load_mid rfl 41 _ rfl b (o + i * 32) rfl (d.map u8) _ (unhide HC) Tryd.underlying41 rfl (by rw [List.length_map, hdl]; exact Tryd.size_dig) ?_)
        | (rw [zb32]; refine wpList_store_row rfl 41 (.tmp 9) _ rfl wx.heap.size (brow d) rfl rfl _ (zb 32) (heap_alloc_new _ _) (Tryd.szD hdl) (by rw [zb_size, brow_size, hdl]) (brow_one _) ?_; rw [unhide HWBE]))
      go_loopw [10] (fun t wq => ∃ (j : Nat), k ≤ j ∧ j ≤ 32 ∧ t = .int .i64 j ∧ Hid (wq.heap[wx.heap.size]? = some (.cells (brow (cI k j d)) 41 (0, 0))) ∧ Hid (Kept [] wx wq)) (fun t _ => 32 - (intOf t).toNat)
      case atStart => exact ⟨k, Nat.le_refl _, h2, rfl, hide (by rw [cI_start]; exact unhide HN0), HK0⟩
      case round =>
        obtain ⟨j, hj1, hj2, rfl, HG, HKr⟩ := hrel
        by_cases hjl : j < 32
        · have hjl' : (j : Int) < 32 := by omega
          have q0 := brow_cell (unhide HG) j (by rw [cI_len hj1 hj2 hdl]; exact hjl)
          simp only [Go.Proofs.YtecadmldnjlibaaDoor.u8] at q0
          have z0 : wr.frozen? ⟨wx.heap.size, j, none⟩ = false := frozen_of_row _ _ _ _ _ (unhide HG)
          have HG2 := hide (by have h9 := heap_setCell_same wr wx.heap.size j _ 41 (.int .u8 0) (unhide HG); rw [cI_set hj1 hjl hdl] at h9; exact h9 : (wr.setCell ⟨wx.heap.size, j, none⟩ (.int .u8 0)).heap[wx.heap.size]? = some (.cells (brow (cI k (j + 1) d)) 41 (0, 0)))
          have HK2 := hide ((unhide HKr).setCell (p := ⟨wx.heap.size, j, none⟩) (Or.inr (Nat.le_refl _)) (.int .u8 0))
          go_wp2_with fail
          refine ⟨⟨j + 1, by omega, by omega, by go_num, HG2, HK2⟩, ?_⟩
          simp [intOf]; omega
        · have hjl' : ¬ (j : Int) < 32 := by omega
          have hj32 : j = 32 := by omega
          subst hj32
          rw [unhide HCE] at HG
          have HOB := hide ((unhide HO).pass (unhide HKr))
          have HOC := hide ((unhide HOB).pass ((Kept.refl [] wr).alloc (.cells (brow (cutL k d)) 41)))
          have HNC := hide (heap_alloc_new wr (.cells (brow (cutL k d)) 41))
          generalize cutL k d = D at HG HOC HNC HSN hcl HCD
          go_wp2_with (first
            | (refine wpList_load_mid rfl 41 _ rfl wx.heap.size 0 rfl (D.map u8) _ (range_row (unhide HG)) Tryd.underlying41 rfl (by rw [List.length_map, hcl]; exact Tryd.size_dig) ?_)
            | (at_builtin; rw [zb32, one_digP D hcl]; refine wpList_appendD rfl _ _ rfl rfl (wr.alloc (.cells (brow D) 41)) w1.heap.size (.slice ua ds.length ucap) ds [D] (some ⟨wr.heap.size, 0, none⟩) 1 1 (unhide HOC).own (RdD.oneP (unhide HNC) (unhide HCD)) (by have := unhide HLN; simp; omega) (unhide HOC).kept.size rfl rfl ?_; intro ao3 cap3 w3 HO3 HG3; have HO4 := hide ((unhide HOC).push (unhide HCD) (unhide HO3) (unhide HG3)); clear HO3 HG3))
          go_roundw
          case rel => exact ⟨i + 1, by omega, by simp, by rw [unhide HSN]; exact HO4⟩
          case measure => simp [intOf]; omega
    · have hlt' : ¬ (i : Int) < (ls.length : Int) := by omega
      have HE := hide (by rw [List.take_of_length_le (by omega)] : ls.take i = ls)
      rw [unhide HE] at HO
      go_wp2_with fail
      refine (newT_any (k : Int) wr (unhide HWB)).mono ?_
      rintro e w2 ⟨t0, rfl, _, tr2, k2⟩
      have HT2 := hide tr2
      have HO2 := hide ((unhide HO).pass k2)
      clear tr2 k2 HO
      go_wp2_with fail
      refine (appendT_any (k : Int) t0 (.slice none 0 0) u7 [] (ls.map (cutL k)) w2 (unhide HT2) (fun _ => rfl) (unhide HO2).rd (by simp [leavesK]; omega) ((unhide HTB).kept (unhide HO2).kept (by simp) (by simp)) ((unhide H6).kept (unhide HO2).kept)).mono ?_
      rintro e w3 ⟨hg1, _, k3⟩
      obtain ⟨t3, v3, qs3, rfl, _, tr3, lv3, _⟩ := hg1 (cut_all h1 h2 (unhide HDG))
      have HT3 := hide tr3
      have HL3 := hide lv3
      have HO3 := hide ((unhide HO2).pass k3)
      clear tr3 lv3 k3 HO2 hg1
      go_wp2_with fail
      refine ⟨rfl, _, results_tmp3 rfl _ _ _, fun h => by rw [unhide HWB] at h; simp at h, fun _ => ⟨t3, v3, qs3, u7, rfl, unhide HT3, by rw [unhide HL3]; simp [leavesK], by rw [Int.toNat_natCast]; exact unhide HO3⟩⟩
end Go.Proofs.YtecadmldnjlibaaDoor
namespace Go.Proofs.YtecadmldnjlibaaDoor
open Go.RowKit Go.BigFrame
set_option linter.unusedVariables false
set_option linter.unusedSimpArgs false

set_option maxRecDepth 100000 in
set_option maxHeartbeats 400000 in
theorem below64_any (k : Nat) (w : World) (h2 : 2 ≤ k) (hk : k < 18446744073709551616) :
    Calls Tryd.prog 39 #[.int .u64 k] w fun e w' => e = .returned (.int .u64 (belT k)) ∧ w' = w := by
  have hs : IntKind.u64.wrap ((k : Int) - 1) = ((k - 1 : Nat) : Int) := by rw [wrM]; omega
  have HB := hide (fun j (h : 2 ^ j ≤ k - 1) (h' : k - 1 < 2 ^ (j + 1)) => (by unfold belT; rw [(Nat.log2_eq_iff (by omega)).2 ⟨h, h'⟩] : belT k = 2 ^ j))
  obtain ⟨k1, hk1⟩ : ∃ k1, k - 1 = k1 := ⟨_, rfl⟩
  rw [hk1] at hs HB
  have h1 : 1 ≤ k1 := by omega
  have h3 : k1 < 18446744073709551616 := by omega
  obtain ⟨B, hBe⟩ : ∃ B, belT k = B := ⟨_, rfl⟩
  rw [hBe] at HB ⊢
  clear hBe hk1
  go_enter Tryd.func39, Tryd.ntmps39
  go_wp2_with fail
  go_loopw [3] (fun t3 wr => ∃ (m : Nat), t3 = .int .u64 (m : Int) ∧ 1 ≤ m ∧ m ≤ k1 ∧ Hid (∃ j, m = 2 ^ j) ∧ wr = w) (fun t _ => k1 - (intOf t).toNat)
  case atStart => exact ⟨1, rfl, by omega, by omega, hide ⟨0, rfl⟩, rfl⟩
  case round =>
    obtain ⟨m, rfl, hm1, hm2, HJ, rfl⟩ := hrel
    by_cases hle : 2 * m ≤ k1
    · have hle' : (m : Int) ≤ (k1 : Int) / 2 := by omega
      have hmul : IntKind.u64.wrap ((m : Int) * 2) = ((2 * m : Nat) : Int) := by rw [wrM]; omega
      have HJ2 := hide (by obtain ⟨j, hj⟩ := unhide HJ; exact ⟨j + 1, by rw [Nat.pow_succ]; omega⟩ : ∃ j, 2 * m = 2 ^ j)
      go_wp2_with (first | simp only [hs] | simp only [hmul])
      refine ⟨⟨2 * m, rfl, by omega, by omega, HJ2, by trivial⟩, ?_⟩
      simp [intOf]
      omega
    · have hle' : ¬ (m : Int) ≤ (k1 : Int) / 2 := by omega
      have HE := hide (by obtain ⟨j, hj⟩ := unhide HJ; rw [hj]; exact unhide HB j (by omega) (by rw [Nat.pow_succ]; omega) : B = m)
      go_wp2_with (simp only [hs])
      go_ret
      exact ⟨by rw [unhide HE]; rfl, rfl⟩

theorem stL_le : ∀ (c i n : Nat), stL c i n ≤ c
  | 0, _, _ => Nat.le_refl _
  | c + 1, i, n => by
    unfold stL
    have := stL_le c (i / 2) (n / 2 + n % 2)
    split
    · omega
    · split <;> omega
theorem stL_one (c i n : Nat) (h : n ≤ 1) : stL c i n = 0 := by
  cases c with
  | zero => rfl
  | succ c => unfold stL; rw [if_pos h]

end Go.Proofs.YtecadmldnjlibaaDoor
namespace Go.Proofs.YtecadmldnjlibaaDoor
open Go.RowKit Go.BigFrame
set_option linter.unusedVariables false
set_option linter.unusedSimpArgs false

theorem sinL_le : ∀ (c m n : Nat) (wh : Bool), sinL c m n wh ≤ c + 1
  | 0, _, _, wh => by unfold sinL; split <;> omega
  | c + 1, m, n, wh => by
    unfold sinL
    have h1 := sinL_le c m (belT n) wh
    have h2 := sinL_le c (m - belT n) (n - belT n) false
    split
    · split <;> omega
    · split <;> omega
theorem sinL_end (c m : Nat) (wh : Bool) : sinL c m m wh = if wh then 0 else 1 := by
  cases c with
  | zero => rfl
  | succ c => unfold sinL; rw [if_pos rfl]

theorem smL_len {m n : Nat} (hm : m ≤ n) (hn : n < 18446744073709551616) : (smL m n).length = if m = 0 then 0 else sinL 64 m n true := by
  unfold smL
  by_cases h0 : m = 0
  · rw [if_pos (Or.inl h0), if_pos h0]; rfl
  · rw [if_neg h0]
    by_cases h1 : m = n
    · rw [if_pos (Or.inr h1), h1, sinL_end]; rfl
    · rw [if_neg (by omega), seam_sin m 64 0 n true (by omega) hm (by omega)]; simp
theorem cntA_eq {i m n : Nat} (hi : i < n) (hm : m ≤ n) (hn : n < 18446744073709551616) : cntA i m n = (stL 64 i n : Int) := by
  unfold cntA
  rw [if_neg (by omega), path_all hi (by omega), levs_steps 64 i n hi (by omega)]

end Go.Proofs.YtecadmldnjlibaaDoor
namespace Go.Proofs.YtecadmldnjlibaaDoor
open Go.RowKit Go.BigFrame
set_option linter.unusedVariables false
set_option linter.unusedSimpArgs false

theorem RdD.flat {w : World} {g : Nat} {ds : List (List Nat)} {t : TypeId} {fr : Nat × Nat} (h : w.heap[g]? = some (.cells (flatD ds).toArray t fr)) (hd : ∀ d ∈ ds, Dg d) (n : Nat) (hn : ds.length = n) (hs : n ≤ 1000000) : RdD w (.slice (some ⟨g, 0, none⟩) n n) ds := by
  subst hn
  refine ⟨_, _, _, rfl, rfl, Nat.le_refl _, by omega, hd, fun _ => ⟨g, 0, rfl, fun i hi => ?_⟩⟩
  intro j v hv
  have hj : j < 32 := by
    have := (List.getElem?_eq_some_iff.1 hv).1
    rw [List.length_map, List.getD_eq_getElem?_getD, List.getElem?_eq_getElem hi] at this
    rw [← (hd ds[i] (List.getElem_mem hi)).1]; exact this
  have hq := flatD_at (fun d hd' => (hd d hd').1) i hi j hj
  rw [Nat.zero_add, cell_of_row _ _ _ _ _ _ h, List.getElem?_toArray, hq]
  exact hv
theorem RdD.range {w : World} {ao : Option Addr} {n c : Nat} {ds : List (List Nat)} (h : RdD w (.slice ao n c) ds) (hp : 0 < ds.length) : ∃ b o, ao = some ⟨b, o, none⟩ ∧ ∀ i, i < ds.length → w.rangeAt b (o + i * 32) ((ds.getD i []).map u8) := by
  obtain ⟨_, _, _, e, h1, h2, h3, h4, h5⟩ := h
  cases e
  obtain ⟨b, o, e, hc⟩ := h5 (by omega)
  exact ⟨b, o, e, fun i hi => hc i (by omega)⟩

def e1 : List Nat := 1 :: List.replicate 31 0
def e2 : List Nat := 2 :: List.replicate 31 0
def e3 : List Nat := 3 :: List.replicate 31 0
theorem e_dg : ∀ d ∈ [e1, e2, e3], Dg d := by
  intro d hd
  simp only [List.mem_cons, List.not_mem_nil, or_false] at hd
  rcases hd with rfl | rfl | rfl <;> exact ⟨rfl, by decide⟩
theorem e_cut : [e1, e2, e3].map (cutL 4) = [e1, e2, e3] := by decide +kernel
theorem e_path : pathF 2 64 0 3 = [(0, 2)] := by decide +kernel
theorem e_seam : smL 1 3 = [(1, 2), (2, 3)] := by decide +kernel
theorem e_in : inD 4 [e1, e2, e3] 2 3 = [nodS 4 e1 e2] := by
  unfold inD
  rw [if_neg (by decide), e_path]
  unfold rgL
  rw [List.map_cons, List.map_nil]
  unfold rgD
  rw [if_neg (by decide), rngD_cut (by decide) (by decide)]
  rfl
theorem e_cs : csD 4 [e1, e2, e3] 1 3 = [e2, e3] := by
  unfold csD
  rw [if_neg (by decide), e_seam]
  rfl

set_option maxRecDepth 100000 in
set_option maxHeartbeats 1000000 in
theorem mpawake_any (w : World) (hT : Tabs w) (h6 : Tab6 w) :
    Calls Tryd.prog 15 #[] w fun e w' => e = .returned (.bool true) ∧ Kept [] w w' := by
  have HTB := hide hT
  have H6 := hide h6
  clear hT h6
  go_enter Tryd.func15, Tryd.ntmps15
  go_wp2_with fail
  have kA := (Kept.refl [] w).alloc (.cells (flatD [e1, e2, e3]).toArray 41)
  have HTR := hide (tree_ok 4 (.slice (some ⟨w.heap.size, 0, none⟩) 3 3) [e1, e2, e3] _ (by decide) (by decide) (RdD.flat (heap_alloc_new w (.cells (flatD [e1, e2, e3]).toArray 41)) e_dg 3 rfl (by decide)) (by decide) ((unhide HTB).kept kA (by simp) (by simp)) ((unhide H6).kept kA))
  have HKA := hide kA
  clear kA
  refine Calls.mono (unhide HTR) ?_
  rintro e w1 ⟨_, h9⟩
  obtain ⟨t, v, qs, u, rfl, tr, lv, ow⟩ := h9 (by decide)
  rw [show ((4 : Nat) : Int).toNat = 4 from rfl, e_cut] at lv ow
  have HT1 := hide tr
  have HLV := hide lv
  have HO1 := hide (ow.back (unhide HKA))
  have HB := hide (by rw [lv]; decide : (leavesK qs).length < 32768)
  clear h9 tr lv ow HTR HKA
  obtain ⟨ua, uc, rfl⟩ := (unhide HO1).form
  go_wp2_with fail
  refine (mincl_any 4 t v qs 2 3 w1 (unhide HT1) (unhide HB) ((unhide HTB).kept (unhide HO1).kept (by simp) (by simp)) ((unhide H6).kept (unhide HO1).kept) (by decide)).mono ?_
  rintro e w2 ⟨p, rfl, o2⟩
  rw [unhide HLV, e_in] at o2
  rw [show inE (leavesK qs) 2 3 = 0 from by rw [unhide HLV]; rfl]
  have HO2 := hide o2
  have HT2 := hide ((unhide HT1).old o2.kept)
  have HOA2 := hide ((unhide HO1).pass o2.kept)
  clear o2 HO1 HT1
  obtain ⟨pa, pc, rfl⟩ := (unhide HO2).form
  go_wp2_with fail
  refine (mcons_any 4 t v qs 1 3 w2 (unhide HT2) (unhide HB) ((unhide HTB).kept (unhide HOA2).kept (by simp) (by simp)) ((unhide H6).kept (unhide HOA2).kept) (by decide)).mono ?_
  rintro e w3 ⟨q, rfl, o3⟩
  rw [unhide HLV, e_cs] at o3
  rw [show csE (leavesK qs) 1 3 = 0 from by rw [unhide HLV]; rfl]
  have HO3 := hide o3
  have HP3 := hide ((unhide HO2).pass o3.kept)
  have HOA3 := hide ((unhide HOA2).pass o3.kept)
  clear o3 HO2 HT2 HOA2
  obtain ⟨qa, qc, rfl⟩ := (unhide HO3).form
  go_wp2_with fail
  refine (counts_any 2 1 3 w3 (by decide) (by decide) (by decide)).mono ?_
  rintro e w4 ⟨rfl, k4⟩
  rw [show cntA 2 1 3 = 1 from by decide +kernel, show cntB 2 1 3 = 2 from by decide +kernel, show cntE 2 1 3 = 0 from rfl]
  have HQ4 := hide ((unhide HO3).pass k4)
  have HP4 := hide ((unhide HP3).pass k4)
  have HL4 := hide ((unhide HOA3).pass k4)
  clear k4 HO3 HP3 HOA3
  obtain ⟨pb, po, rfl, prd⟩ := (unhide HP4).rd.range (by decide)
  obtain ⟨qb, qo, rfl, qrd⟩ := (unhide HQ4).rd.range (by decide)
  obtain ⟨ub, uo, rfl, urd⟩ := (unhide HL4).rd.range (by decide)
  have p0 := prd 0 (by decide)
  have q0 := qrd 0 (by decide)
  have q1 := qrd 1 (by decide)
  have u0 := urd 0 (by decide)
  have u1 := urd 1 (by decide)
  have u2 := urd 2 (by decide)
  simp only [List.getD_cons_zero, List.getD_cons_succ, Nat.zero_mul, Nat.add_zero, Nat.one_mul] at p0 q0 q1 u0 u1 u2
  have HND := hide (fun w' (hw' : Kept [] w4 w') => (refNode_any 4 e1 e2 w' (by decide) (e_dg e1 (by simp)) (e_dg e2 (by simp))).mono (fun e w2 h2 => ⟨h2.1, hw'.trans h2.2 (by simp)⟩) : ∀ w', Kept [] w4 w' → Calls Tryd.prog 30 #[.int .i64 ((4 : Nat) : Int), .agg (brow e1), .agg (brow e2)] w' fun e w2 => e = .returned (.agg (brow (nodS 4 e1 e2))) ∧ Kept [] w4 w2)
  have hN := (nodS_dg 4 e1 e2).1
  generalize nodS 4 e1 e2 = N at p0 HND hN
  have he1 : e1.length = 32 := rfl
  have he2 : e2.length = 32 := rfl
  have he3 : e3.length = 32 := rfl
  have u2 : w4.rangeAt ub (uo + 64) (e3.map u8) := u2
  have hqN := fun W => dig_eq W N N hN hN
  have hq2 := fun W => dig_eq W e2 e2 he2 he2
  have hq3 := fun W => dig_eq W e3 e3 he3 he3
  rw [decide_eq_true rfl] at hqN hq2 hq3
  have hne : ∀ p : Prop, (∀ w', Kept [] w4 w' → p) = p := fun p => propext ⟨fun h => h w4 (Kept.refl [] w4), fun h _ _ => h⟩
  go_wp2_with fail
  refine wp_region_keep (by kernel_rfl) (by kernel_rfl) ?_
  iterate 2 (go_big_quiet_step (fail))
  refine wpQuiet_mid rfl 41 _ rfl pb (po) rfl (N.map u8) _ (fun w' hw' => range_kept p0 hw' (by simp)) Tryd.underlying41 rfl (by rw [List.length_map, hN]; exact Tryd.size_dig) ?_
  simp only [Act.put, List.setIfInBounds_toArray, List.set_cons_succ, List.set_cons_zero]
  iterate 2 (go_big_quiet_step (fail))
  refine wpQuiet_mid rfl 41 _ rfl ub (uo) rfl (e1.map u8) _ (fun w' hw' => range_kept u0 hw' (by simp)) Tryd.underlying41 rfl (by rw [List.length_map, he1]; exact Tryd.size_dig) ?_
  simp only [Act.put, List.setIfInBounds_toArray, List.set_cons_succ, List.set_cons_zero]
  iterate 2 (go_big_quiet_step (fail))
  refine wpQuiet_mid rfl 41 _ rfl ub (uo + 32) rfl (e2.map u8) _ (fun w' hw' => range_kept u1 hw' (by simp)) Tryd.underlying41 rfl (by rw [List.length_map, he2]; exact Tryd.size_dig) ?_
  simp only [Act.put, List.setIfInBounds_toArray, List.set_cons_succ, List.set_cons_zero]
  go_big_quiet_want
  go_big_quiet_op
  apply Exists.intro
  refine ⟨fun w' hw' => ?_, ?_⟩
  · exact unhide HND w' hw'
  go_big_quiet_on
  refine wpQuiet_val rfl (.bool true) (fun w' hw' => run_eql 41 (.tmp 67) (.tmp 74) _ rfl (brow N) (brow N) rfl rfl w' true (by kernel_rfl) (hqN w')) ?_
  simp only [Act.put, List.setIfInBounds_toArray, List.set_cons_succ, List.set_cons_zero]
  iterate 3 (go_big_quiet_step (fail))
  refine wpQuiet_mid rfl 41 _ rfl qb (qo) rfl (e2.map u8) _ (fun w' hw' => range_kept q0 hw' (by simp)) Tryd.underlying41 rfl (by rw [List.length_map, he2]; exact Tryd.size_dig) ?_
  simp only [Act.put, List.setIfInBounds_toArray, List.set_cons_succ, List.set_cons_zero]
  iterate 2 (go_big_quiet_step (fail))
  refine wpQuiet_mid rfl 41 _ rfl ub (uo + 32) rfl (e2.map u8) _ (fun w' hw' => range_kept u1 hw' (by simp)) Tryd.underlying41 rfl (by rw [List.length_map, he2]; exact Tryd.size_dig) ?_
  simp only [Act.put, List.setIfInBounds_toArray, List.set_cons_succ, List.set_cons_zero]
  refine wpQuiet_val rfl (.bool true) (fun w' hw' => run_eql 41 (.tmp 79) (.tmp 82) _ rfl (brow e2) (brow e2) rfl rfl w' true (by kernel_rfl) (hq2 w')) ?_
  simp only [Act.put, List.setIfInBounds_toArray, List.set_cons_succ, List.set_cons_zero]
  iterate 4 (go_big_quiet_step (fail))
  refine wpQuiet_mid rfl 41 _ rfl qb (qo + 32) rfl (e3.map u8) _ (fun w' hw' => range_kept q1 hw' (by simp)) Tryd.underlying41 rfl (by rw [List.length_map, he3]; exact Tryd.size_dig) ?_
  simp only [Act.put, List.setIfInBounds_toArray, List.set_cons_succ, List.set_cons_zero]
  iterate 2 (go_big_quiet_step (fail))
  refine wpQuiet_mid rfl 41 _ rfl ub (uo + 64) rfl (e3.map u8) _ (fun w' hw' => range_kept u2 hw' (by simp)) Tryd.underlying41 rfl (by rw [List.length_map, he3]; exact Tryd.size_dig) ?_
  simp only [Act.put, List.setIfInBounds_toArray, List.set_cons_succ, List.set_cons_zero]
  refine wpQuiet_val rfl (.bool true) (fun w' hw' => run_eql 41 (.tmp 88) (.tmp 91) _ rfl (brow e3) (brow e3) rfl rfl w' true (by kernel_rfl) (hq3 w')) ?_
  simp only [Act.put, List.setIfInBounds_toArray, List.set_cons_succ, List.set_cons_zero]
  repeat (go_big_quiet_step (fail))
  refine wpQuiet_nil ?_
  intro w7 hw7
  have HK7 := hide ((unhide HL4).kept.trans hw7 (by simp))
  clear hw7
  go_wp2
  go_ret
  exact ⟨rfl, unhide HK7⟩
end Go.Proofs.YtecadmldnjlibaaDoor
/-
  Laws for drawn regions, by genreg.py. No program.
-/
namespace Go.Proofs.YtecadmldnjlibaaDoor
open Go Go.RowKit Go.BigFrame
set_option linter.unusedVariables false
set_option linter.unusedSimpArgs false
section
variable {P : Program} {Q : Exit → Act → World → Prop}
theorem wp_mu15 {id : Nat} {o0 o1 o2 o3 o4 o5 o6 o7 o8 o9 o10 o11 o12 o13 o14 : Oper} {a : Act} {w : World} (hm : P.follows .mixedOrders = true) (hs : Region.noSelect #[o0, o1, o2, o3, o4, o5, o6, o7, o8, o9, o10, o11, o12, o13, o14] = true)
    (f0 : Region.free .any #[o0, o1, o2, o3, o4, o5, o6, o7, o8, o9, o10, o11, o12, o13, o14] #[false, false, false, false, false, false, false, false, false, false, false, false, false, false, false] 0 = true) (r0 : (Region.ready .any #[o0, o1, o2, o3, o4, o5, o6, o7, o8, o9, o10, o11, o12, o13, o14] #[false, false, false, false, false, false, false, false, false, false, false, false, false, false, false]).contains 0 = true)
    (f1 : Region.free .any #[o0, o1, o2, o3, o4, o5, o6, o7, o8, o9, o10, o11, o12, o13, o14] #[true, false, false, false, false, false, false, false, false, false, false, false, false, false, false] 1 = true) (r1 : (Region.ready .any #[o0, o1, o2, o3, o4, o5, o6, o7, o8, o9, o10, o11, o12, o13, o14] #[true, false, false, false, false, false, false, false, false, false, false, false, false, false, false]).contains 1 = true)
    (f2 : Region.free .any #[o0, o1, o2, o3, o4, o5, o6, o7, o8, o9, o10, o11, o12, o13, o14] #[true, true, false, false, false, false, false, false, false, false, false, false, false, false, false] 2 = true) (r2 : (Region.ready .any #[o0, o1, o2, o3, o4, o5, o6, o7, o8, o9, o10, o11, o12, o13, o14] #[true, true, false, false, false, false, false, false, false, false, false, false, false, false, false]).contains 2 = true)
    (f3 : Region.free .any #[o0, o1, o2, o3, o4, o5, o6, o7, o8, o9, o10, o11, o12, o13, o14] #[true, true, true, false, false, false, false, false, false, false, false, false, false, false, false] 3 = true) (r3 : (Region.ready .any #[o0, o1, o2, o3, o4, o5, o6, o7, o8, o9, o10, o11, o12, o13, o14] #[true, true, true, false, false, false, false, false, false, false, false, false, false, false, false]).contains 3 = true)
    (f4 : Region.free .any #[o0, o1, o2, o3, o4, o5, o6, o7, o8, o9, o10, o11, o12, o13, o14] #[true, true, true, true, false, false, false, false, false, false, false, false, false, false, false] 4 = true) (r4 : (Region.ready .any #[o0, o1, o2, o3, o4, o5, o6, o7, o8, o9, o10, o11, o12, o13, o14] #[true, true, true, true, false, false, false, false, false, false, false, false, false, false, false]).contains 4 = true)
    (f5 : Region.free .any #[o0, o1, o2, o3, o4, o5, o6, o7, o8, o9, o10, o11, o12, o13, o14] #[true, true, true, true, true, false, false, false, false, false, false, false, false, false, false] 5 = true) (r5 : (Region.ready .any #[o0, o1, o2, o3, o4, o5, o6, o7, o8, o9, o10, o11, o12, o13, o14] #[true, true, true, true, true, false, false, false, false, false, false, false, false, false, false]).contains 5 = true)
    (f6 : Region.free .any #[o0, o1, o2, o3, o4, o5, o6, o7, o8, o9, o10, o11, o12, o13, o14] #[true, true, true, true, true, true, false, false, false, false, false, false, false, false, false] 6 = true) (r6 : (Region.ready .any #[o0, o1, o2, o3, o4, o5, o6, o7, o8, o9, o10, o11, o12, o13, o14] #[true, true, true, true, true, true, false, false, false, false, false, false, false, false, false]).contains 6 = true)
    (f7 : Region.free .any #[o0, o1, o2, o3, o4, o5, o6, o7, o8, o9, o10, o11, o12, o13, o14] #[true, true, true, true, true, true, true, false, false, false, false, false, false, false, false] 7 = true) (r7 : (Region.ready .any #[o0, o1, o2, o3, o4, o5, o6, o7, o8, o9, o10, o11, o12, o13, o14] #[true, true, true, true, true, true, true, false, false, false, false, false, false, false, false]).contains 7 = true)
    (f8 : Region.free .any #[o0, o1, o2, o3, o4, o5, o6, o7, o8, o9, o10, o11, o12, o13, o14] #[true, true, true, true, true, true, true, true, false, false, false, false, false, false, false] 8 = true) (r8 : (Region.ready .any #[o0, o1, o2, o3, o4, o5, o6, o7, o8, o9, o10, o11, o12, o13, o14] #[true, true, true, true, true, true, true, true, false, false, false, false, false, false, false]).contains 8 = true)
    (f9 : Region.free .any #[o0, o1, o2, o3, o4, o5, o6, o7, o8, o9, o10, o11, o12, o13, o14] #[true, true, true, true, true, true, true, true, true, false, false, false, false, false, false] 9 = true) (r9 : (Region.ready .any #[o0, o1, o2, o3, o4, o5, o6, o7, o8, o9, o10, o11, o12, o13, o14] #[true, true, true, true, true, true, true, true, true, false, false, false, false, false, false]).contains 9 = true)
    (f10 : Region.free .any #[o0, o1, o2, o3, o4, o5, o6, o7, o8, o9, o10, o11, o12, o13, o14] #[true, true, true, true, true, true, true, true, true, true, false, false, false, false, false] 10 = true) (r10 : (Region.ready .any #[o0, o1, o2, o3, o4, o5, o6, o7, o8, o9, o10, o11, o12, o13, o14] #[true, true, true, true, true, true, true, true, true, true, false, false, false, false, false]).contains 10 = true)
    (q_ : Region.ready .any #[o0, o1, o2, o3, o4, o5, o6, o7, o8, o9, o10, o11, o12, o13, o14] #[true, true, true, true, true, true, true, true, true, true, true, false, false, false, false] = [11])
    (q11_ : Region.ready .any #[o0, o1, o2, o3, o4, o5, o6, o7, o8, o9, o10, o11, o12, o13, o14] #[true, true, true, true, true, true, true, true, true, true, true, true, false, false, false] = [12])
    (q11_12_ : Region.ready .any #[o0, o1, o2, o3, o4, o5, o6, o7, o8, o9, o10, o11, o12, o13, o14] #[true, true, true, true, true, true, true, true, true, true, true, true, true, false, false] = [13])
    (f11_12_13_14 : Region.free .any #[o0, o1, o2, o3, o4, o5, o6, o7, o8, o9, o10, o11, o12, o13, o14] #[true, true, true, true, true, true, true, true, true, true, true, true, true, true, false] 14 = true) (r11_12_13_14 : (Region.ready .any #[o0, o1, o2, o3, o4, o5, o6, o7, o8, o9, o10, o11, o12, o13, o14] #[true, true, true, true, true, true, true, true, true, true, true, true, true, true, false]).contains 14 = true)
    (q11_12_13_ : Region.ready .any #[o0, o1, o2, o3, o4, o5, o6, o7, o8, o9, o10, o11, o12, o13, o14] #[true, true, true, true, true, true, true, true, true, true, true, true, true, true, true] = [])
    (g11 : o11.guard = none)    (g12 : o12.guard = none)    (g13 : o13.guard = none)
    (v0 v1 v2 v3 v4 v5 v6 v7 v8 v9 v10 : Value) (A0 A1 A2 A3 A4 A5 A6 A7 A8 A9 A10 : Act)
    (S : World → Prop)
    (I_ : World → Prop)
    (I11_ : Value → World → Prop)
    (I11_12_ : Value → Value → World → Prop)
    (I11_12_13_ : Value → Value → Value → World → Prop)
    (v14 : Value → Value)
    (p0 : a.put o0.dst v0 = A0) (hy0 : YieldsIf P #[o0, o1, o2, o3, o4, o5, o6, o7, o8, o9, o10, o11, o12, o13, o14] S o0 v0 a)
    (p1 : A0.put o1.dst v1 = A1) (hy1 : YieldsIf P #[o0, o1, o2, o3, o4, o5, o6, o7, o8, o9, o10, o11, o12, o13, o14] S o1 v1 A0)
    (p2 : A1.put o2.dst v2 = A2) (hy2 : YieldsIf P #[o0, o1, o2, o3, o4, o5, o6, o7, o8, o9, o10, o11, o12, o13, o14] S o2 v2 A1)
    (p3 : A2.put o3.dst v3 = A3) (hy3 : YieldsIf P #[o0, o1, o2, o3, o4, o5, o6, o7, o8, o9, o10, o11, o12, o13, o14] S o3 v3 A2)
    (p4 : A3.put o4.dst v4 = A4) (hy4 : YieldsIf P #[o0, o1, o2, o3, o4, o5, o6, o7, o8, o9, o10, o11, o12, o13, o14] S o4 v4 A3)
    (p5 : A4.put o5.dst v5 = A5) (hy5 : YieldsIf P #[o0, o1, o2, o3, o4, o5, o6, o7, o8, o9, o10, o11, o12, o13, o14] S o5 v5 A4)
    (p6 : A5.put o6.dst v6 = A6) (hy6 : YieldsIf P #[o0, o1, o2, o3, o4, o5, o6, o7, o8, o9, o10, o11, o12, o13, o14] S o6 v6 A5)
    (p7 : A6.put o7.dst v7 = A7) (hy7 : YieldsIf P #[o0, o1, o2, o3, o4, o5, o6, o7, o8, o9, o10, o11, o12, o13, o14] S o7 v7 A6)
    (p8 : A7.put o8.dst v8 = A8) (hy8 : YieldsIf P #[o0, o1, o2, o3, o4, o5, o6, o7, o8, o9, o10, o11, o12, o13, o14] S o8 v8 A7)
    (p9 : A8.put o9.dst v9 = A9) (hy9 : YieldsIf P #[o0, o1, o2, o3, o4, o5, o6, o7, o8, o9, o10, o11, o12, o13, o14] S o9 v9 A8)
    (p10 : A9.put o10.dst v10 = A10) (hy10 : YieldsIf P #[o0, o1, o2, o3, o4, o5, o6, o7, o8, o9, o10, o11, o12, o13, o14] S o10 v10 A9)
    (i0 : I_ w.drew)
    (hIS : (∀ w', I_  w' → S w') ∧ (∀ (u11 : Value) w', I11_ u11 w' → S w') ∧ (∀ (u11 u12 : Value) w', I11_12_ u11 u12 w' → S w') ∧ (∀ (u11 u12 u13 : Value) w', I11_12_13_ u11 u12 u13 w' → S w'))
    (s_11 : ∀ w', I_  w' → ∀ K : Act → World → Prop, (∀ (u11 : Value) w2, I11_ u11 w2 → K (A10.put o11.dst u11) w2) → o11.wp P A10 w' K (NoPanic Q))
    (s11_12 : ∀ (u11 : Value) w', I11_ u11 w' → ∀ K : Act → World → Prop, (∀ (u12 : Value) w2, I11_12_ u11 u12 w2 → K ((A10.put o11.dst u11).put o12.dst u12) w2) → o12.wp P (A10.put o11.dst u11) w' K (NoPanic Q))
    (s11_12_13 : ∀ (u11 u12 : Value) w', I11_12_ u11 u12 w' → ∀ K : Act → World → Prop, (∀ (u13 : Value) w2, I11_12_13_ u11 u12 u13 w2 → K (((A10.put o11.dst u11).put o12.dst u12).put o13.dst u13) w2) → o13.wp P ((A10.put o11.dst u11).put o12.dst u12) w' K (NoPanic Q))
    (y11_12_13_14 : ∀ (u11 u12 u13 : Value) w', I11_12_13_ u11 u12 u13 w' → YieldsIf P #[o0, o1, o2, o3, o4, o5, o6, o7, o8, o9, o10, o11, o12, o13, o14] S o14 (v14 u13) (((A10.put o11.dst u11).put o12.dst u12).put o13.dst u13))
    (h : ∀ (u11 u12 u13 : Value) w', I11_12_13_ u11 u12 u13 w' → Q .normal ((((A10.put o11.dst u11).put o12.dst u12).put o13.dst u13).put o14.dst (v14 u13)) w') :
    (Code.region id #[o0, o1, o2, o3, o4, o5, o6, o7, o8, o9, o10, o11, o12, o13, o14] true).wp P Q a w := by
  subst p0 p1 p2 p3 p4 p5 p6 p7 p8 p9 p10
  obtain ⟨z_, z11_, z11_12_, z11_12_13_⟩ := hIS
  refine wp_region_noPanic ?_
  refine wp_region_held_drew (S := S) hm (z_ _ i0) (fun hH => ?_)
  show wpAnyH P .any #[o0, o1, o2, o3, o4, o5, o6, o7, o8, o9, o10, o11, o12, o13, o14] (NoPanic Q) S 15 #[false, false, false, false, false, false, false, false, false, false, false, false, false, false, false] a w.drew
  refine wpAnyH_take (i := 0) (oi := o0) rfl hs f0 r0 (fun _ _ _ h => h) hy0 hH ?_
  refine wpAnyH_take (i := 1) (oi := o1) rfl hs f1 r1 (fun _ _ _ h => h) hy1 hH ?_
  refine wpAnyH_take (i := 2) (oi := o2) rfl hs f2 r2 (fun _ _ _ h => h) hy2 hH ?_
  refine wpAnyH_take (i := 3) (oi := o3) rfl hs f3 r3 (fun _ _ _ h => h) hy3 hH ?_
  refine wpAnyH_take (i := 4) (oi := o4) rfl hs f4 r4 (fun _ _ _ h => h) hy4 hH ?_
  refine wpAnyH_take (i := 5) (oi := o5) rfl hs f5 r5 (fun _ _ _ h => h) hy5 hH ?_
  refine wpAnyH_take (i := 6) (oi := o6) rfl hs f6 r6 (fun _ _ _ h => h) hy6 hH ?_
  refine wpAnyH_take (i := 7) (oi := o7) rfl hs f7 r7 (fun _ _ _ h => h) hy7 hH ?_
  refine wpAnyH_take (i := 8) (oi := o8) rfl hs f8 r8 (fun _ _ _ h => h) hy8 hH ?_
  refine wpAnyH_take (i := 9) (oi := o9) rfl hs f9 r9 (fun _ _ _ h => h) hy9 hH ?_
  refine wpAnyH_take (i := 10) (oi := o10) rfl hs f10 r10 (fun _ _ _ h => h) hy10 hH ?_
  generalize (((((((((((a.put o0.dst v0).put o1.dst v1).put o2.dst v2).put o3.dst v3).put o4.dst v4).put o5.dst v5).put o6.dst v6).put o7.dst v7).put o8.dst v8).put o9.dst v9).put o10.dst v10) = B at *
  have wa11 : ∀ y, Region.wanted o11 y = true := fun y => by unfold Region.wanted; rw [g11]
  have wa12 : ∀ y, Region.wanted o12 y = true := fun y => by unfold Region.wanted; rw [g12]
  have wa13 : ∀ y, Region.wanted o13 y = true := fun y => by unfold Region.wanted; rw [g13]
  have t11_12_13_ : ∀ (u11 u12 u13 : Value) w', I11_12_13_ u11 u12 u13 w' → wpAnyH P .any #[o0, o1, o2, o3, o4, o5, o6, o7, o8, o9, o10, o11, o12, o13, o14] (NoPanic Q) S 0 #[true, true, true, true, true, true, true, true, true, true, true, true, true, true, true] ((((B.put o11.dst u11).put o12.dst u12).put o13.dst u13).put o14.dst (v14 u13)) w' := by
    intro u11 u12 u13 w0 i0
    exact ⟨q11_12_13_, NoPanic.normal (h u11 u12 u13 w0 i0)⟩
  have t11_12_ : ∀ (u11 u12 : Value) w', I11_12_ u11 u12 w' → wpAnyH P .any #[o0, o1, o2, o3, o4, o5, o6, o7, o8, o9, o10, o11, o12, o13, o14] (NoPanic Q) S 2 #[true, true, true, true, true, true, true, true, true, true, true, true, true, false, false] ((B.put o11.dst u11).put o12.dst u12) w' := by
    intro u11 u12 w0 i0
    refine wpAnyH_ready (rs := [13]) q11_12_ (by simp) (AllReadyH.cons (o := o13) rfl (fun K hK => ?_) AllReadyH.nil)
    · rw [if_pos (wa13 _)]
      refine s11_12_13 u11 u12 w0 i0 K (fun u13 w1 i1 => hK.out _ _ (z11_12_13_ u11 u12 u13 w1 i1) (fun _ => ?_))
      clear hK
      refine wpAnyH_take (i := 14) (oi := o14) rfl hs f11_12_13_14 r11_12_13_14 (fun _ _ _ h => h) (y11_12_13_14 u11 u12 u13 w1 i1) (z11_12_13_ u11 u12 u13 w1 i1) ?_
      exact t11_12_13_ u11 u12 u13 w1 i1
  have t11_ : ∀ (u11 : Value) w', I11_ u11 w' → wpAnyH P .any #[o0, o1, o2, o3, o4, o5, o6, o7, o8, o9, o10, o11, o12, o13, o14] (NoPanic Q) S 3 #[true, true, true, true, true, true, true, true, true, true, true, true, false, false, false] (B.put o11.dst u11) w' := by
    intro u11 w0 i0
    refine wpAnyH_ready (rs := [12]) q11_ (by simp) (AllReadyH.cons (o := o12) rfl (fun K hK => ?_) AllReadyH.nil)
    · rw [if_pos (wa12 _)]
      refine s11_12 u11 w0 i0 K (fun u12 w1 i1 => hK.out _ _ (z11_12_ u11 u12 w1 i1) (fun _ => ?_))
      clear hK
      exact t11_12_ u11 u12 w1 i1
  have t_ : ∀ w', I_  w' → wpAnyH P .any #[o0, o1, o2, o3, o4, o5, o6, o7, o8, o9, o10, o11, o12, o13, o14] (NoPanic Q) S 4 #[true, true, true, true, true, true, true, true, true, true, true, false, false, false, false] B w' := by
    intro w0 i0
    refine wpAnyH_ready (rs := [11]) q_ (by simp) (AllReadyH.cons (o := o11) rfl (fun K hK => ?_) AllReadyH.nil)
    · rw [if_pos (wa11 _)]
      refine s_11  w0 i0 K (fun u11 w1 i1 => hK.out _ _ (z11_ u11 w1 i1) (fun _ => ?_))
      clear hK
      exact t11_ u11 w1 i1
  exact t_ w.drew i0

end
end Go.Proofs.YtecadmldnjlibaaDoor
