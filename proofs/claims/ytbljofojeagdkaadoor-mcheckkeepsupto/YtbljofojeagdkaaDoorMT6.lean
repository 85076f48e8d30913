import Derived.Test.YtbljofojeagdkaaDoorMT5
namespace Go.Proofs.YtbljofojeagdkaaDoor
open Go.RowKit Go.BigFrame
set_option linter.unusedVariables false
set_option linter.unusedSimpArgs false

/-- The blocks that push turns are none of the tables. -/
def Far (t : Nat) (v : Value) : Prop := ∀ b, b ∈ t :: v.ownBlock.toList → b ≠ 2 ∧ b ≠ 1 ∧ b ≠ 0
theorem Far.tabs {t : Nat} {v : Value} {w w' : World} (h : Far t v) (hT : Tabs w) (k : Kept (t :: v.ownBlock.toList) w w') : Tabs w' :=
  hT.kept k (fun hm => (h _ hm).1 rfl) (fun hm => (h _ hm).2.1 rfl)
theorem Far.tab6 {t : Nat} {v : Value} {w w' : World} (h : Far t v) (hT : Tab6 w) (k : Kept (t :: v.ownBlock.toList) w w') : Tab6 w' :=
  fun j hj => k.cell (hT j hj) (fun hm => (h _ hm).2.2 rfl)

/-- push within: the peaks behind i joinings. -/
structure PuRel (z : Int) (t M base : Nat) (v : Value) (ps : List Pk) (leaf : List Nat) (w : World) (i : Nat) (front : List Pk) (top : Pk) (g1 cap1 : Nat) (wr : World) : Prop where
  th : top.h = i
  row : wr.heap[t]? = some (.cells #[.int .i64 z, .int .u64 (M : Int), .slice (some ⟨g1, 0, none⟩) (front.length + 1) cap1] 83 (0, 0))
  own : wr.ownsRow base 87 33 (.slice (some ⟨g1, 0, none⟩) (front.length + 1) cap1) (front.length + 1) (cellsK (front ++ [top]))
  pa : ∀ p ∈ front ++ [top], PA z wr p.h p.s p.k p.l
  inc : Inc i (front.reverse.map (·.h))
  sum : sumP (front.reverse.map (·.h)) + 2 ^ i = M
  lv : leavesK (front ++ [top]) = leavesK ps ++ [leaf]
  kept : Kept (t :: v.ownBlock.toList) w wr
  lies : v.ownBlock = some g1 ∨ w.heap.size ≤ g1

theorem cellsK_one1 (p : Pk) : cellsK [p] = partC p.s p.k := by simp [cellsK]
theorem leavesK_one1 (p : Pk) : leavesK [p] = p.l := by simp [leavesK]
theorem len_le_sum : ∀ (ps : List Nat), ps.length ≤ sumP ps
  | [] => by simp [sumP]
  | h :: S => by
    have := len_le_sum S
    have h1 : 1 ≤ 2 ^ h := Nat.one_le_two_pow
    rw [sumP_cons, List.length_cons]; omega
theorem cellsK_len' {ps : List Pk} (h : ∀ p ∈ ps, p.s.length = 32) : (cellsK ps).length = ps.length * 33 := by
  induction ps with
  | nil => rfl
  | cons p ps ih =>
    have h1 := ih (fun q hq => h q (by simp [hq]))
    have h2 := partC_len (k := p.k) (h p (by simp))
    simp only [cellsK, List.flatMap_cons, List.length_append, List.length_cons] at h1 ⊢
    rw [h2, h1]; omega

/-- What a round of push reads. -/
structure PuFacts (z : Int) (t M base : Nat) (i : Nat) (f2 : List Pk) (pa top : Pk) (g1 cap1 : Nat) (wr : World) : Prop where
  ph : pa.h = i
  inc : Inc (i + 1) (f2.reverse.map (·.h))
  sum : sumP (f2.reverse.map (·.h)) + 2 ^ (i + 1) = M
  ra : wr.rangeAt g1 (f2.length * 33) (partC pa.s pa.k)
  rt : wr.rangeAt g1 ((f2.length + 1) * 33) (partC top.s top.k)
  la : pa.s.length = 32
  lt : top.s.length = 32
  da : Dg pa.s
  dt : Dg top.s
  fa : formB z pa.s = true
  ft : formB z top.s = true
  oa : (partC pa.s pa.k).toArray.all (·.oneCell') = true
  ot : (partC top.s top.k).toArray.all (·.oneCell') = true
  tg : ¬ t = g1
  gw : g1 < wr.heap.size
  bw : base ≤ g1
  jc : f2.length + 2 ≤ cap1
  jM : f2.length + 2 ≤ M
  cz : wr.cell? ⟨t, 0, none⟩ = some (.int .i64 z)
  cq : wr.cell? ⟨t, 2, none⟩ = some (.slice (some ⟨g1, 0, none⟩) (f2.length + 2) cap1)
theorem all_one {l : List Value} (h : ∀ v ∈ l, v.oneCell' = true) : l.toArray.all (·.oneCell') = true := by
  simp only [List.all_toArray, List.all_eq_true]; exact h
theorem PuRel.facts {z : Int} {t M base : Nat} {v : Value} {ps : List Pk} {leaf : List Nat} {w : World} {i : Nat} {front : List Pk} {top : Pk} {g1 cap1 : Nat} {wr : World} (h : PuRel z t M base v ps leaf w i front top g1 cap1 wr) (hw : widthB z = true) {c m : Nat} (hc : M = 2 ^ c * (2 * m + 1)) (hi : i < c) :
    ∃ f2 pa, front = f2 ++ [pa] ∧ PuFacts z t M base i f2 pa top g1 cap1 wr := by
  obtain ⟨f2, pa, rfl, e1, e2, e3⟩ := push_two hc hi h.inc h.sum
  have hpa := h.pa pa (by simp)
  have hpt := h.pa top (by simp)
  have hl2 : (cellsK f2).length = f2.length * 33 := cellsK_len' (fun p hp => (h.pa p (by simp [hp])).dg.1)
  have hx : cellsK (f2 ++ [pa] ++ [top]) = cellsK f2 ++ (partC pa.s pa.k ++ partC top.s top.k) := by rw [cellsK_app, cellsK_app, cellsK_one1, cellsK_one1, List.append_assoc]
  have hx2 : cellsK (f2 ++ [pa] ++ [top]) = (cellsK f2 ++ partC pa.s pa.k) ++ (partC top.s top.k ++ []) := by rw [hx, List.append_nil, List.append_assoc]
  have hca := owns_cap h.own
  have hsl := len_le_sum (f2.reverse.map (·.h))
  have hp1 : 2 ≤ 2 ^ (i + 1) := by have : 1 ≤ 2 ^ i := Nat.one_le_two_pow; rw [Nat.pow_succ]; omega
  simp only [List.length_map, List.length_reverse] at hsl
  have hcq := cell_of_row _ _ 2 _ _ _ h.row
  have hcz := cell_of_row _ _ 0 _ _ _ h.row
  simp at hcq hcz
  refine ⟨f2, pa, rfl, ⟨e1, e2, e3, ?_, ?_, hpa.dg.1, hpt.dg.1, hpa.dg, hpt.dg, hpa.form hw, hpt.form hw, all_one (partC_one hpa.one), all_one (partC_one hpt.one), owns_ne h.own h.row (by decide), hca.2.2, hca.2.1, ?_, ?_, hcz, ?_⟩⟩
  · exact owns_range h.own hx _ hl2.symm
  · exact owns_range h.own hx2 _ (by rw [List.length_append, hl2, partC_len hpa.dg.1]; omega)
  · have := hca.1; simp at this; omega
  · omega
  · rw [hcq]
theorem PA.keptT {z : Int} {t g1 : Nat} {cs cs' : Array Value} {w w' : World} {m m' : Nat × Nat} (k : Kept [t, g1] w w') (h1 : w.heap[t]? = some (.cells cs 83 m)) (h2 : w.heap[g1]? = some (.cells cs' 87 m')) {h : Nat} {s : List Nat} {kv : Value} {l : List (List Nat)} (hp : PA z w h s kv l) : PA z w' h s kv l := by
  refine hp.kept k ?_
  intro b hb cs2 m2 h9
  simp only [List.mem_cons, List.not_mem_nil, or_false] at hb
  rcases hb with rfl | rfl
  · rw [h1] at h9; simp at h9
  · rw [h2] at h9; simp at h9
theorem owns_block {w : World} {base T sz g n cap : Nat} {xs : List Value} (h : w.ownsRow base T sz (.slice (some ⟨g, 0, none⟩) n cap) n xs) : ∃ cur, w.heap[g]? = some (.cells cur T (0, 0)) := by
  rcases h.2 with ⟨h9, h1⟩ | ⟨g', cap', cur, h1, h2, h3, h4, h5, h6, h7⟩
  · cases h9
  · cases h1; exact ⟨cur, h3⟩
/-- One joining more. -/
theorem PuRel.step {z : Int} {t M base : Nat} {v : Value} {ps : List Pk} {leaf : List Nat} {w : World} {i : Nat} {f2 : List Pk} {pa top : Pk} {g1 cap1 : Nat} {wr : World} (h : PuRel z t M base v ps leaf w i (f2 ++ [pa]) top g1 cap1 wr) (F : PuFacts z t M base i f2 pa top g1 cap1 wr)
    {W6 W7 : World} (k6 : Kept [] wr W6) (k7 : Kept [t, g1] W6 W7) {gk g2 cap2 : Nat} (hgk : W6.heap.size ≤ gk) (hk : W7.heap[gk]? = some (.cells (partC pa.s pa.k ++ partC top.s top.k).toArray 109 (0, 0)))
    (ho : W7.ownsRow base 87 33 (.slice (some ⟨g2, 0, none⟩) (f2.length + 1) cap2) (f2.length + 1) (cellsK f2 ++ partC (nodT z pa.s top.s) (.pointer (some ⟨gk, 0, none⟩))))
    (hr : W7.heap[t]? = some (.cells #[.int .i64 z, .int .u64 (M : Int), .slice (some ⟨g2, 0, none⟩) (f2.length + 1) cap2] 83 (0, 0))) (hg : g2 = g1 ∨ W6.heap.size ≤ g2) :
    PuRel z t M base v ps leaf w (i + 1) f2 ⟨i + 1, nodT z pa.s top.s, .pointer (some ⟨gk, 0, none⟩), pa.l ++ top.l⟩ g2 cap2 W7 := by
  obtain ⟨cur, hcur⟩ := owns_block h.own
  have r6 := k6.heap h.row (by simp)
  have c6 := k6.heap hcur (by simp)
  have up : ∀ p ∈ f2 ++ [pa] ++ [top], PA z W7 p.h p.s p.k p.l := fun p hp => ((h.pa p hp).kept k6 (by simp)).keptT k7 r6 c6
  refine ⟨rfl, hr, ?_, ?_, F.inc, F.sum, ?_, ?_, ?_⟩
  · rw [cellsK_app, cellsK_one1]; exact ho
  · intro p hp
    rcases List.mem_append.1 hp with h1 | h1
    · exact up p (by simp [h1])
    · rw [List.mem_singleton] at h1
      subst h1
      have ua := up pa (by simp)
      have ut := up top (by simp)
      rw [F.ph] at ua
      rw [h.th] at ut
      exact ⟨gk, _, _, _, _, _, _, rfl, hk, ua, ut, rfl, rfl⟩
  · rw [← h.lv, leavesK_app, leavesK_app, leavesK_app, leavesK_one1, leavesK_one1, leavesK_one1, List.append_assoc]
  · refine (h.kept.trans k6 (by simp)).trans k7 ?_
    intro x hx
    simp only [List.mem_cons, List.not_mem_nil, or_false] at hx
    rcases hx with rfl | rfl
    · left; simp
    · rcases h.lies with h9 | h9
      · left; simp [h9]
      · right; exact h9
  · rcases hg with rfl | hg
    · exact h.lies
    · right
      have := h.kept.size
      have := k6.size
      omega
theorem PuRel.start {z : Int} {t N base : Nat} {v : Value} {ps : List Pk} {leaf : List Nat} {w wr : World} {g1 cap1 : Nat} (hpk : PKs z w ps) (hN : N = (leavesK ps).length) (hl : Dg leaf) (hf : formB z leaf = true) (k : Kept (t :: v.ownBlock.toList) w wr)
    (hv : ∀ b, v.ownBlock = some b → ∃ cs m, w.heap[b]? = some (.cells cs 87 m)) (ht : ∃ cs m, w.heap[t]? = some (.cells cs 83 m))
    (hr : wr.heap[t]? = some (.cells #[.int .i64 z, .int .u64 ((N + 1 : Nat) : Int), .slice (some ⟨g1, 0, none⟩) (ps.length + 1) cap1] 83 (0, 0)))
    (ho : wr.ownsRow base 87 33 (.slice (some ⟨g1, 0, none⟩) (ps.length + 1) cap1) (ps.length + 1) (cellsK ps ++ partC leaf (.pointer none))) (hg : v.ownBlock = some g1 ∨ w.heap.size ≤ g1) :
    PuRel z t (N + 1) base v ps leaf w 0 ps ⟨0, leaf, .pointer none, [leaf]⟩ g1 cap1 wr := by
  refine ⟨rfl, hr, ?_, ?_, hpk.inc, ?_, ?_, k, hg⟩
  · rw [cellsK_app, cellsK_one1]; exact ho
  · intro p hp
    rcases List.mem_append.1 hp with h1 | h1
    · refine (hpk.ok p h1).kept k ?_
      intro b hb cs m h9
      simp only [List.mem_cons, Option.mem_toList] at hb
      rcases hb with rfl | hb
      · obtain ⟨c1, m1, e⟩ := ht
        rw [e] at h9; simp at h9
      · obtain ⟨c1, m1, e⟩ := hv b hb
        rw [e] at h9; simp at h9
    · rw [List.mem_singleton] at h1
      subst h1
      exact ⟨rfl, rfl, hl, hf⟩
  · rw [hN, leavesK_len hpk.ok]
  · rw [leavesK_app, leavesK_one1]
/-- What push leaves. -/
def PushD (z : Int) (t N base : Nat) (v : Value) (ps : List Pk) (leaf : List Nat) (w w' : World) : Prop :=
  ∃ (g cap : Nat) (qs : List Pk), w'.heap[t]? = some (.cells #[.int .i64 z, .int .u64 ((N + 1 : Nat) : Int), .slice (some ⟨g, 0, none⟩) qs.length cap] 83 (0, 0)) ∧ w'.ownsRow base 87 33 (.slice (some ⟨g, 0, none⟩) qs.length cap) qs.length (cellsK qs) ∧
    PKs z w' qs ∧ leavesK qs = leavesK ps ++ [leaf] ∧ qs ≠ [] ∧ Kept (t :: v.ownBlock.toList) w w' ∧ (v.ownBlock = some g ∨ w.heap.size ≤ g)
theorem PuRel.fin {z : Int} {t N base : Nat} {v : Value} {ps : List Pk} {leaf : List Nat} {w : World} {c m : Nat} {front : List Pk} {top : Pk} {g1 cap1 : Nat} {wr : World} (h : PuRel z t (N + 1) base v ps leaf w c front top g1 cap1 wr) (hc : N + 1 = 2 ^ c * (2 * m + 1)) : PushD z t N base v ps leaf w wr := by
  have hlen : (front ++ [top]).length = front.length + 1 := by simp
  refine ⟨g1, cap1, front ++ [top], ?_, ?_, ⟨h.pa, ?_⟩, h.lv, by simp, h.kept, h.lies⟩
  · rw [hlen]; exact h.row
  · rw [hlen]; exact h.own
  · rw [List.reverse_append, List.reverse_cons, List.reverse_nil, List.nil_append, List.singleton_append, List.map_cons, h.th]
    exact ⟨Nat.zero_le _, push_end hc h.inc h.sum⟩

end Go.Proofs.YtbljofojeagdkaaDoor
