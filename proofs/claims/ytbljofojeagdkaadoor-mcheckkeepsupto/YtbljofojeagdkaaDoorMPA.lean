import Derived.Test.YtbljofojeagdkaaDoorMPart
namespace Go.Proofs.YtbljofojeagdkaaDoor
open Go.RowKit Go.BigFrame
set_option linter.unusedVariables false
set_option linter.unusedSimpArgs false

theorem RdD.nlP {w : World} {ao : Option Addr} {len cap : Nat} {ds : List (List Nat)} (h : RdD w (.slice ao len cap) ds) : ds.length = len := by
  obtain ⟨_, _, _, e, h1, _⟩ := h
  cases e; exact h1
theorem RdD.oneP {w : World} {g : Nat} {l : List Nat} {t : TypeId} {fr : Nat × Nat} (h : w.heap[g]? = some (.cells (brow l) t fr)) (hl : Dg l) : RdD w (.slice (some ⟨g, 0, none⟩) 1 1) [l] := by
  refine ⟨_, 1, 1, rfl, rfl, Nat.le_refl _, by omega, fun d hd => by simp at hd; subst hd; exact hl, fun _ => ⟨g, 0, rfl, fun i hi => ?_⟩⟩
  obtain rfl : i = 0 := by omega
  exact range_row h
/-- The cells of digests in a row. -/
def flatD (ds : List (List Nat)) : List Value := (ds.map fun d => d.map u8).flatten
theorem flatD_len {ds : List (List Nat)} (h : ∀ d ∈ ds, d.length = 32) : (flatD ds).length = ds.length * 32 := by
  induction ds with
  | nil => rfl
  | cons d r ih =>
    have := ih (fun x hx => h x (by simp [hx]))
    simp only [flatD, List.map_cons, List.flatten_cons, List.length_append, List.length_map, List.length_cons] at this ⊢
    rw [this, h d (by simp)]; omega
theorem flatD_app (a b : List (List Nat)) : flatD (a ++ b) = flatD a ++ flatD b := by simp [flatD]
theorem flatD_one (ds : List (List Nat)) : ∀ v ∈ flatD ds, v.oneCell' = true := by
  intro v hv
  simp only [flatD, List.mem_flatten, List.mem_map] at hv
  obtain ⟨l, ⟨d, _, rfl⟩, h⟩ := hv
  exact u8_oneCell d v h
theorem flatD_at {ds : List (List Nat)} (h : ∀ d ∈ ds, d.length = 32) : ∀ (i : Nat), i < ds.length → ∀ j, j < 32 → (flatD ds)[i * 32 + j]? = ((ds.getD i []).map u8)[j]? := by
  induction ds with
  | nil => intro i hi; simp at hi
  | cons d r ih =>
    intro i hi j hj
    have hd := h d (by simp)
    have e : flatD (d :: r) = d.map u8 ++ flatD r := by simp [flatD]
    rw [e]
    cases i with
    | zero =>
      rw [Nat.zero_mul, Nat.zero_add, List.getElem?_append_left (by simp [hd]; exact hj)]; rfl
    | succ i =>
      rw [List.getElem?_append_right (by simp [hd]; omega), List.length_map, hd, show (i + 1) * 32 + j - 32 = i * 32 + j by omega, ih (fun x hx => h x (by simp [hx])) i (by simpa using hi) j hj]
      rfl
theorem RdD.news {w : World} {b off n c : Nat} {ds : List (List Nat)} (h : RdD w (.slice (some ⟨b, off, none⟩) n c) ds) : ∀ j u, (flatD ds)[j]? = some u → w.cell? ((⟨b, off, none⟩ : Addr).add j) = some u := by
  obtain ⟨ao', len', cap', e, h1, h2, h3, h4, h5⟩ := h
  cases e
  intro j u hu
  have hl := flatD_len (fun d hd => (h4 d hd).1)
  have hj := (List.getElem?_eq_some_iff.1 hu).1
  have hp : 0 < n := by
    rcases Nat.eq_zero_or_pos n with h0 | h0
    · rw [hl, h1, h0] at hj; omega
    · exact h0
  obtain ⟨b', off', e, hc⟩ := h5 hp
  cases e
  have hi : j / 32 < ds.length := by omega
  have hq := flatD_at (fun d hd => (h4 d hd).1) (j / 32) hi (j % 32) (Nat.mod_lt _ (by decide))
  rw [show j / 32 * 32 + j % 32 = j by omega, hu] at hq
  have := hc (j / 32) (by omega) (j % 32) u hq.symm
  rw [Addr.add_mid]
  rw [show off + j / 32 * 32 + j % 32 = off + j by omega] at this
  exact this
theorem rdd_owns {w : World} {base : Nat} {v : Value} {ds : List (List Nat)} (h : w.ownsRow base 23 32 v ds.length (flatD ds)) (hd : ∀ d ∈ ds, Dg d) : RdD w v ds := by
  rcases h.2 with ⟨rfl, h0⟩ | ⟨g, cap, cur, rfl, _, hg, h1, h2, h3, h4⟩
  · exact ⟨none, 0, 0, rfl, h0, Nat.le_refl _, by omega, hd, fun h => by omega⟩
  · refine ⟨_, ds.length, cap, rfl, rfl, h1, by unfold maxLen at h2; omega, hd, fun hp => ⟨g, 0, rfl, fun i hi j v hv => ?_⟩⟩
    have hj : j < 32 := by
      have := (List.getElem?_eq_some_iff.1 hv).1
      rw [List.length_map, List.getD_eq_getElem?_getD, List.getElem?_eq_getElem hi] at this
      rw [← (hd ds[i] (List.getElem_mem hi)).1]; exact this
    have hq := flatD_at (fun d hd' => (hd d hd').1) i hi j hj
    rw [Nat.zero_add, cell_of_row _ _ _ _ _ _ hg, ← hv, ← hq, ← h4, List.getElem?_take_of_lt (by omega), Array.getElem?_toList]

theorem Tryd.infoD : (Tryd.prog.info? 23).map (fun i => (i.zero, i.size, i.bytes)) = some (some (.agg (zb 32)), 32, 32) := by kernel_rfl

theorem owns_form {w : World} {base : Nat} {e : TypeId} {size n : Nat} {v : Value} {xs : List Value} (h : w.ownsRow base e size v n xs) : ∃ ao cap, v = .slice ao n cap := by
  rcases h.2 with ⟨rfl, rfl⟩ | ⟨g, cap, cur, rfl, _⟩
  · exact ⟨none, 0, rfl⟩
  · exact ⟨_, cap, rfl⟩
theorem append_none {P : Program} {w : World} (base : Nat) (t ty e : TypeId) (i : TypeInfo) (size c : Nat) (ht : P.underlying t = some (.slice e)) (hi : P.info? e = some i)
    (v : Value) (n : Nat) (xs : List Value) (hown : w.ownsRow base e size v n xs) :
    (Builtin.append_ #[t, t] ty #[v, .slice none 0 c]).run P w = .ok v w := by
  rcases hown.2 with ⟨rfl, rfl⟩ | ⟨g, cap, cur, rfl, _, _, hnc, _⟩
  · simp [Builtin.append_, run_underlying ht, sizeOf, typeInfo, hi, Builtin.lenOf, Builtin.firstCells]
  · simp [Builtin.append_, run_underlying ht, sizeOf, typeInfo, hi, Builtin.lenOf, Builtin.firstCells, hnc, storeCells]

theorem appendD (w : World) (base : Nat) (v : Value) (ds ps : List (List Nat)) (ao : Option Addr) (n c : Nat) (h : w.ownsRow base 23 32 v ds.length (flatD ds)) (hr : RdD w (.slice ao n c) ps) (hl : ds.length + ps.length ≤ 1000000000000) (hb : base ≤ w.heap.size) :
    ∃ ao' cap' w1, (Builtin.append_ #[25, 25] 25 #[v, .slice ao n c]).run Tryd.prog w = .ok (.slice ao' (ds.length + ps.length) cap') w1 ∧
      w1.ownsRow base 23 32 (.slice ao' (ds.length + ps.length) cap') (ds ++ ps).length (flatD (ds ++ ps)) ∧ w.grownBy w1 v.ownBlock := by
  obtain ⟨i0, hi, hz0, hz1, hz2⟩ := info_parts Tryd.infoD
  have hn := hr.nlP
  have hdg : ∀ d ∈ ps, d.length = 32 := fun d hd => (hr.dg hd).1
  rw [flatD_app, List.length_append]
  by_cases h0 : n = 0
  · subst h0
    have hp : ps = [] := List.eq_nil_of_length_eq_zero hn
    subst hp
    cases ao with
    | none =>
      have hrun := append_none (P := Tryd.prog) (w := w) base 25 25 23 i0 32 c Tryd.underlying25 hi v ds.length (flatD ds) h
      obtain ⟨ao', cap', rfl⟩ := owns_form h
      exact ⟨ao', cap', w, hrun, by simpa [flatD] using h, World.grownBy.refl _ _⟩
    | some ad =>
      obtain ⟨v', w1, hrun, hown, hgrow, _, hat⟩ := run_append_own_at (P := Tryd.prog) w base 25 25 23 i0 (.agg (zb 32)) 32 32 Tryd.underlying25 hi hz0 hz1 hz2 (by show (zb 32).size = 32; exact zb_size 32) (by decide)
        v ds.length (flatD ds) h ad 0 c (flatD []) (by simp [flatD]) (by intro j u hj; simp [flatD] at hj) (flatD_one _) (by unfold maxLen; omega) (by omega) hb
      obtain ⟨ao', cap', rfl⟩ := owns_form hown
      exact ⟨ao', cap', w1, hrun, hown, hgrow⟩
  · have hr' := hr
    obtain ⟨ao1, n1, c1, he, h1, h2, h3, h4, h5⟩ := hr'
    cases he
    obtain ⟨b, off, rfl, hc⟩ := h5 (by omega)
    obtain ⟨v', w1, hrun, hown, hgrow, _, hat⟩ := run_append_own_at (P := Tryd.prog) w base 25 25 23 i0 (.agg (zb 32)) 32 32 Tryd.underlying25 hi hz0 hz1 hz2 (by show (zb 32).size = 32; exact zb_size 32) (by decide)
      v ds.length (flatD ds) h ⟨b, off, none⟩ n c (flatD ps) (by rw [flatD_len hdg, hn]) hr.news (flatD_one _) (by unfold maxLen; omega) (by omega) hb
    subst h1
    obtain ⟨ao', cap', rfl⟩ := owns_form hown
    exact ⟨ao', cap', w1, hrun, hown, hgrow⟩

theorem wpList_appendD {ops : Array Oper} {rest : List Oper} {o : Oper} {a : Act} {Q : Exit → Act → World → Prop} (hgd : o.guard = none) (s x : Operand)
    (ho : o.op = .call { callee := .builtin .append, args := #[s, x], argTypes := #[25, 25] }) (hty : o.type = 25)
    (w : World) (base : Nat) (v : Value) (ds ps : List (List Nat)) (ao : Option Addr) (n c : Nat) (h : w.ownsRow base 23 32 v ds.length (flatD ds)) (hr : RdD w (.slice ao n c) ps) (hl : ds.length + ps.length ≤ 1000000000000) (hb : base ≤ w.heap.size)
    (hs : a.eval s = v) (hx : a.eval x = .slice ao n c)
    (hK : ∀ ao' cap' w1, Hid (w1.ownsRow base 23 32 (.slice ao' (ds.length + ps.length) cap') (ds ++ ps).length (flatD (ds ++ ps))) → Hid (w.grownBy w1 v.ownBlock) →
      wpList Tryd.prog ops Q rest (a.put o.dst (.slice ao' (ds.length + ps.length) cap')) w1) :
    wpList Tryd.prog ops Q (o :: rest) a w := by
  obtain ⟨ao', cap', w1, hrun, h2, h3⟩ := appendD w base v ds ps ao n c h hr hl hb
  refine wpList_plain hgd fun K hK' => ?_
  unfold Oper.wp execOp
  simp only [ho, hty, resolve, invoke, builtin, Sem.run_bind, Sem.run_pure, Result.andThen_ok, List.map_toArray, List.map_cons, List.map_nil, hs, hx, hrun]
  exact hK' _ _ (hK ao' cap' w1 h2 h3)

end Go.Proofs.YtbljofojeagdkaaDoor
