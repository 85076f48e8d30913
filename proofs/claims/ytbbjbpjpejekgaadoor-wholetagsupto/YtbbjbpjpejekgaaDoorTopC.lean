import Derived.Test.YtbbjbpjpejekgaaDoorTopB
import Derived.Test.YtbbjbpjpejekgaaDoorRowz
import Derived.Deep.RegionHeld3
namespace Go.Proofs.YtbbjbpjpejekgaaDoor
open Go.RowKit Go.BigFrame
set_option linter.unusedVariables false
set_option linter.unusedSimpArgs false

set_option maxRecDepth 100000 in
set_option maxHeartbeats 1000000 in
theorem twidth_any (n : Nat) (w : World) (hn : n < 256) :
    Calls Tryd.prog 18 #[.int .u8 n] w fun e w' => e = .returned (.int .i64 ((1 + n % 32 : Nat) : Int)) ∧ w' = w := by
  have h1 : IntKind.i64.wrap (n : Int) = n := by simp [IntKind.wrap, IntKind.signed, IntKind.bits]; omega
  obtain ⟨y, hy⟩ : ∃ y, n % 32 = y := ⟨_, rfl⟩
  have hy2 : (n : Int) % 32 = y := by omega
  have hy3 : (n : Int).tmod 32 = y := by rw [Int.tmod_eq_emod_of_nonneg (by omega)]; omega
  have hy32 : (y : Int) < 32 := by omega
  rw [hy]
  have HY := hide hy
  clear hy
  go_enter Tryd.func18, Tryd.ntmps18
  go_wp2
  go_ret
  exact ⟨by congr 2, rfl⟩

def cI (k i : Nat) (d : List Nat) : List Nat := (d.take k ++ List.replicate (i - k) 0) ++ d.drop i
theorem cI_len {k i : Nat} {d : List Nat} (h : k ≤ i) (hi : i ≤ 32) (hd : d.length = 32) : (cI k i d).length = 32 := by simp [cI, hd]; omega
theorem cI_set {k i : Nat} {d : List Nat} (h : k ≤ i) (hi : i < 32) (hd : d.length = 32) : (brow (cI k i d)).setIfInBounds i (.int .u8 0) = brow (cI k (i + 1) d) := by
  have hA : (d.take k ++ List.replicate (i - k) 0).length = i := by simp [hd]; omega
  have e1 : (cI k i d).set i 0 = cI k (i + 1) d := by
    unfold cI
    rw [List.set_append_right _ _ (by omega), hA, Nat.sub_self, List.drop_eq_getElem_cons (show i < d.length by omega), List.set_cons_zero, show i + 1 - k = (i - k) + 1 by omega, List.replicate_succ']
    simp
  rw [← e1]
  unfold brow
  rw [List.setIfInBounds_toArray, List.map_set]
  rfl
theorem cI_end {k : Nat} {d : List Nat} (hd : d.length = 32) : cI k 32 d = cutL k d := by unfold cI cutL; rw [List.drop_eq_nil_of_le (by omega), List.append_nil]
theorem cI_start {k : Nat} {d : List Nat} : cI k k d = d := by simp [cI]

set_option maxRecDepth 100000 in
set_option maxHeartbeats 1000000 in
theorem tcut_any (k : Nat) (d : List Nat) (w : World) (h1 : 1 ≤ k) (h2 : k ≤ 32) (hd : d.length = 32) (hb : ∀ x ∈ d, x < 256) :
    Calls Tryd.prog 60 #[.int .i64 k, .agg (brow d)] w fun e w' => e = .returned (.agg (brow (cutL k d))) ∧ Kept [] w w' := by
  have hcl := cutL_len k d h2 hd
  have HCE := hide (cI_end (k := k) hd)
  clear hb
  go_enter Tryd.func60, Tryd.ntmps60
  go_wp2_with fail
  rw [zb32]
  have HA := hide (heap_alloc2_old w (.cells (brow d) 26) (.cells (zb 32) 26))
  have HB := hide (heap_alloc2_new w (.cells (brow d) 26) (.cells (zb 32) 26))
  have HK := hide (((Kept.refl [] w).alloc (.cells (brow d) 26)).alloc (.cells (zb 32) 26))
  obtain ⟨W, hW⟩ : ∃ W, (w.alloc (.cells (brow d) 26)).alloc (.cells (zb 32) 26) = W := ⟨_, rfl⟩
  rw [hW] at HA HB HK ⊢
  clear hW
  go_loopw [5] (fun t wr => ∃ (i : Nat), k ≤ i ∧ i ≤ 32 ∧ t = .int .i64 i ∧ Hid (wr.heap[w.heap.size]? = some (.cells (brow (cI k i d)) 26 (0, 0))) ∧ Hid (wr.heap[w.heap.size + 1]? = some (.cells (zb 32) 26 (0, 0))) ∧ Hid (Kept [] w wr)) (fun t _ => 32 - (intOf t).toNat)
  case atStart => exact ⟨k, Nat.le_refl _, h2, rfl, hide (by rw [cI_start]; exact unhide HA), HB, HK⟩
  case round =>
    obtain ⟨i, hi1, hi2, rfl, HG, HZ, HKr⟩ := hrel
    by_cases hlt : i < 32
    · have hlt' : (i : Int) < 32 := by omega
      have q0 := brow_cell (unhide HG) i (by rw [cI_len hi1 hi2 hd]; exact hlt)
      simp only [Go.Proofs.YtbbjbpjpejekgaaDoor.u8] at q0
      have z0 : wr.frozen? ⟨w.heap.size, i, none⟩ = false := frozen_of_row _ _ _ _ _ (unhide HG)
      have k1 := (Kept.refl [w.heap.size] wr).setCell (p := ⟨w.heap.size, i, none⟩) (Or.inl (by simp)) (.int .u8 0)
      have HG2 := hide (by have h9 := heap_setCell_same wr w.heap.size i _ 26 (.int .u8 0) (unhide HG); rw [cI_set hi1 hlt hd] at h9; exact h9 : (wr.setCell ⟨w.heap.size, i, none⟩ (.int .u8 0)).heap[w.heap.size]? = some (.cells (brow (cI k (i + 1) d)) 26 (0, 0)))
      have HZ2 := hide (k1.heap (unhide HZ) (by simp))
      have HK2 := hide ((unhide HKr).setCell (p := ⟨w.heap.size, i, none⟩) (Or.inr (Nat.le_refl _)) (.int .u8 0))
      clear k1
      go_wp2
      refine ⟨⟨i + 1, by omega, by omega, by go_num, HG2, HZ2, HK2⟩, ?_⟩
      simp [intOf]; omega
    · have hlt' : ¬ (i : Int) < 32 := by omega
      have hi32 : i = 32 := by omega
      subst hi32
      rw [unhide HCE] at HG
      go_wp2_with (first
        | (refine wpList_load_row rfl 26 _ rfl w.heap.size rfl _ (brow (cutL k d)) (0, 0) _ (unhide HG) Tryd.underlying26 rfl (by rw [brow_size, hcl]; exact Tryd.size_dig) ?_)
        | (refine wpList_store_row rfl 26 _ _ rfl (w.heap.size + 1) (brow (cutL k d)) rfl rfl _ (zb 32) (unhide HZ) (by rw [brow_size, hcl]; exact Tryd.size_dig) (by rw [zb_size, brow_size, hcl]) (brow_one _) ?_))
      refine bodyPost_ret (v := .agg (brow (cutL k d))) ?_ rfl ⟨rfl, (unhide HKr).setRow (Or.inr (by omega)) _⟩
      exact results_cell_row rfl _ _ (w.heap.size + 1) _ (brow (cutL k d)) (0, 0) _ rfl (setRow_heap _ _ _ _ _ _ (unhide HZ)) Tryd.underlying26 rfl (by rw [brow_size, hcl]; exact Tryd.size_dig)

theorem wpList_load_midT {P : Program} {ops : Array Oper} {rest : List Oper} {op : Oper} {a : Act} {w : World} {Q : Exit → Act → World → Prop} (hw : Region.wanted op (yielded ops a.tmps) = true) (ty : TypeId) (x : Operand) (ho : op.op = .load ty x)
    (b o : Nat) (hx : a.eval x = .pointer (some ⟨b, o, none⟩)) (cs : List Value) (d : TypeDesc) (hc : w.rangeAt b o cs)
    (hu : P.underlying ty = some d) (hd : d.isRow = true) (hi : (P.info? ty).map (·.size) = some cs.length)
    (h : wpList P ops Q rest (a.put op.dst (.agg cs.toArray)) w) : wpList P ops Q (op :: rest) a w :=
  wpList_want hw fun _ hK => wp_load_mid ty x ho b o hx cs d hc hu hd hi (hK _ _ h)
theorem RdD_nil {w : World} : RdD w (.slice none 0 0) [] := ⟨none, 0, 0, rfl, rfl, Nat.le_refl _, by omega, fun d hd => by simp at hd, fun h => by omega⟩
theorem cutL_cut2 {k : Nat} {d : List Nat} (hk : k ≤ 32) (hd : d.length = 32) : cutL k (cutL k d) = cutL k d := cutL_cutL k d (by omega)
theorem cut_dg {k : Nat} {d : List Nat} (hk : k ≤ 32) (hd : Dg d) : Dg (cutL k d) := ⟨cutL_len k d hk hd.1, cutL_byte k d hd.2⟩
theorem cut_form {k : Nat} {d : List Nat} (h1 : 1 ≤ k) (hk : k ≤ 32) (hd : Dg d) : formB (k : Int) (cutL k d) = true := by
  have hw : widthB (k : Int) = true := by simp [widthB]; omega
  unfold formB
  rw [hw, Int.toNat_natCast, cutL_cut2 hk hd.1]
  simp

end Go.Proofs.YtbbjbpjpejekgaaDoor
namespace Go.Proofs.YtbbjbpjpejekgaaDoor
open Go.RowKit Go.BigFrame
set_option linter.unusedVariables false
set_option linter.unusedSimpArgs false

theorem RdD.nlP {w : World} {ao : Option Addr} {len cap : Nat} {ds : List (List Nat)} (h : RdD w (.slice ao len cap) ds) : ds.length = len := by
  obtain ⟨_, _, _, e, h1, _⟩ := h
  cases e; exact h1
theorem RdD.oneP {w : World} {g : Nat} {l : List Nat} {t : TypeId} {fr : Nat × Nat} (h : w.heap[g]? = some (.cells (brow l) t fr)) (hl : Dg l) : RdD w (.slice (some ⟨g, 0, none⟩) 1 1) [l] := by
  refine ⟨_, 1, 1, rfl, rfl, Nat.le_refl _, by omega, fun d hd => by simp at hd; subst hd; exact hl, fun _ => ⟨g, 0, rfl, fun i hi => ?_⟩⟩
  obtain rfl : i = 0 := by omega
  exact range_row h
/-- The cells of digests in a row. -/
def flatD (ds : List (List Nat)) : List Value := (ds.map fun d => d.map u8).flatten
theorem flatD_len {ds : List (List Nat)} (h : ∀ d ∈ ds, d.length = 32) : (flatD ds).length = ds.length * 32 := by
  induction ds with
  | nil => rfl
  | cons d r ih =>
    have := ih (fun x hx => h x (by simp [hx]))
    simp only [flatD, List.map_cons, List.flatten_cons, List.length_append, List.length_map, List.length_cons] at this ⊢
    rw [this, h d (by simp)]; omega
theorem flatD_app (a b : List (List Nat)) : flatD (a ++ b) = flatD a ++ flatD b := by simp [flatD]
theorem flatD_one (ds : List (List Nat)) : ∀ v ∈ flatD ds, v.oneCell' = true := by
  intro v hv
  simp only [flatD, List.mem_flatten, List.mem_map] at hv
  obtain ⟨l, ⟨d, _, rfl⟩, h⟩ := hv
  exact u8_oneCell d v h
theorem flatD_at {ds : List (List Nat)} (h : ∀ d ∈ ds, d.length = 32) : ∀ (i : Nat), i < ds.length → ∀ j, j < 32 → (flatD ds)[i * 32 + j]? = ((ds.getD i []).map u8)[j]? := by
  induction ds with
  | nil => intro i hi; simp at hi
  | cons d r ih =>
    intro i hi j hj
    have hd := h d (by simp)
    have e : flatD (d :: r) = d.map u8 ++ flatD r := by simp [flatD]
    rw [e]
    cases i with
    | zero =>
      rw [Nat.zero_mul, Nat.zero_add, List.getElem?_append_left (by simp [hd]; exact hj)]; rfl
    | succ i =>
      rw [List.getElem?_append_right (by simp [hd]; omega), List.length_map, hd, show (i + 1) * 32 + j - 32 = i * 32 + j by omega, ih (fun x hx => h x (by simp [hx])) i (by simpa using hi) j hj]
      rfl
theorem RdD.news {w : World} {b off n c : Nat} {ds : List (List Nat)} (h : RdD w (.slice (some ⟨b, off, none⟩) n c) ds) : ∀ j u, (flatD ds)[j]? = some u → w.cell? ((⟨b, off, none⟩ : Addr).add j) = some u := by
  obtain ⟨ao', len', cap', e, h1, h2, h3, h4, h5⟩ := h
  cases e
  intro j u hu
  have hl := flatD_len (fun d hd => (h4 d hd).1)
  have hj := (List.getElem?_eq_some_iff.1 hu).1
  have hp : 0 < n := by
    rcases Nat.eq_zero_or_pos n with h0 | h0
    · rw [hl, h1, h0] at hj; omega
    · exact h0
  obtain ⟨b', off', e, hc⟩ := h5 hp
  cases e
  have hi : j / 32 < ds.length := by omega
  have hq := flatD_at (fun d hd => (h4 d hd).1) (j / 32) hi (j % 32) (Nat.mod_lt _ (by decide))
  rw [show j / 32 * 32 + j % 32 = j by omega, hu] at hq
  have := hc (j / 32) (by omega) (j % 32) u hq.symm
  rw [Addr.add_mid]
  rw [show off + j / 32 * 32 + j % 32 = off + j by omega] at this
  exact this
theorem rdd_owns {w : World} {base : Nat} {v : Value} {ds : List (List Nat)} (h : w.ownsRow base 26 32 v ds.length (flatD ds)) (hd : ∀ d ∈ ds, Dg d) : RdD w v ds := by
  rcases h.2 with ⟨rfl, h0⟩ | ⟨g, cap, cur, rfl, _, hg, h1, h2, h3, h4⟩
  · exact ⟨none, 0, 0, rfl, h0, Nat.le_refl _, by omega, hd, fun h => by omega⟩
  · refine ⟨_, ds.length, cap, rfl, rfl, h1, by unfold maxLen at h2; omega, hd, fun hp => ⟨g, 0, rfl, fun i hi j v hv => ?_⟩⟩
    have hj : j < 32 := by
      have := (List.getElem?_eq_some_iff.1 hv).1
      rw [List.length_map, List.getD_eq_getElem?_getD, List.getElem?_eq_getElem hi] at this
      rw [← (hd ds[i] (List.getElem_mem hi)).1]; exact this
    have hq := flatD_at (fun d hd' => (hd d hd').1) i hi j hj
    rw [Nat.zero_add, cell_of_row _ _ _ _ _ _ hg, ← hv, ← hq, ← h4, List.getElem?_take_of_lt (by omega), Array.getElem?_toList]

theorem Tryd.infoD : (Tryd.prog.info? 26).map (fun i => (i.zero, i.size, i.bytes)) = some (some (.agg (zb 32)), 32, 32) := by kernel_rfl

theorem owns_form {w : World} {base : Nat} {e : TypeId} {size n : Nat} {v : Value} {xs : List Value} (h : w.ownsRow base e size v n xs) : ∃ ao cap, v = .slice ao n cap := by
  rcases h.2 with ⟨rfl, rfl⟩ | ⟨g, cap, cur, rfl, _⟩
  · exact ⟨none, 0, rfl⟩
  · exact ⟨_, cap, rfl⟩
theorem append_none {P : Program} {w : World} (base : Nat) (t ty e : TypeId) (i : TypeInfo) (size c : Nat) (ht : P.underlying t = some (.slice e)) (hi : P.info? e = some i)
    (v : Value) (n : Nat) (xs : List Value) (hown : w.ownsRow base e size v n xs) :
    (Builtin.append_ #[t, t] ty #[v, .slice none 0 c]).run P w = .ok v w := by
  rcases hown.2 with ⟨rfl, rfl⟩ | ⟨g, cap, cur, rfl, _, _, hnc, _⟩
  · simp [Builtin.append_, run_underlying ht, sizeOf, typeInfo, hi, Builtin.lenOf, Builtin.firstCells]
  · simp [Builtin.append_, run_underlying ht, sizeOf, typeInfo, hi, Builtin.lenOf, Builtin.firstCells, hnc, storeCells]

theorem appendD (w : World) (base : Nat) (v : Value) (ds ps : List (List Nat)) (ao : Option Addr) (n c : Nat) (h : w.ownsRow base 26 32 v ds.length (flatD ds)) (hr : RdD w (.slice ao n c) ps) (hl : ds.length + ps.length ≤ 1000000000000) (hb : base ≤ w.heap.size) :
    ∃ ao' cap' w1, (Builtin.append_ #[29, 29] 29 #[v, .slice ao n c]).run Tryd.prog w = .ok (.slice ao' (ds.length + ps.length) cap') w1 ∧
      w1.ownsRow base 26 32 (.slice ao' (ds.length + ps.length) cap') (ds ++ ps).length (flatD (ds ++ ps)) ∧ w.grownBy w1 v.ownBlock := by
  obtain ⟨i0, hi, hz0, hz1, hz2⟩ := info_parts Tryd.infoD
  have hn := hr.nlP
  have hdg : ∀ d ∈ ps, d.length = 32 := fun d hd => (hr.dg hd).1
  rw [flatD_app, List.length_append]
  by_cases h0 : n = 0
  · subst h0
    have hp : ps = [] := List.eq_nil_of_length_eq_zero hn
    subst hp
    cases ao with
    | none =>
      have hrun := append_none (P := Tryd.prog) (w := w) base 29 29 26 i0 32 c Tryd.underlying29 hi v ds.length (flatD ds) h
      obtain ⟨ao', cap', rfl⟩ := owns_form h
      exact ⟨ao', cap', w, hrun, by simpa [flatD] using h, World.grownBy.refl _ _⟩
    | some ad =>
      obtain ⟨v', w1, hrun, hown, hgrow, _, hat⟩ := run_append_own_at (P := Tryd.prog) w base 29 29 26 i0 (.agg (zb 32)) 32 32 Tryd.underlying29 hi hz0 hz1 hz2 (by show (zb 32).size = 32; exact zb_size 32) (by decide)
        v ds.length (flatD ds) h ad 0 c (flatD []) (by simp [flatD]) (by intro j u hj; simp [flatD] at hj) (flatD_one _) (by unfold maxLen; omega) (by omega) hb
      obtain ⟨ao', cap', rfl⟩ := owns_form hown
      exact ⟨ao', cap', w1, hrun, hown, hgrow⟩
  · have hr' := hr
    obtain ⟨ao1, n1, c1, he, h1, h2, h3, h4, h5⟩ := hr'
    cases he
    obtain ⟨b, off, rfl, hc⟩ := h5 (by omega)
    obtain ⟨v', w1, hrun, hown, hgrow, _, hat⟩ := run_append_own_at (P := Tryd.prog) w base 29 29 26 i0 (.agg (zb 32)) 32 32 Tryd.underlying29 hi hz0 hz1 hz2 (by show (zb 32).size = 32; exact zb_size 32) (by decide)
      v ds.length (flatD ds) h ⟨b, off, none⟩ n c (flatD ps) (by rw [flatD_len hdg, hn]) hr.news (flatD_one _) (by unfold maxLen; omega) (by omega) hb
    subst h1
    obtain ⟨ao', cap', rfl⟩ := owns_form hown
    exact ⟨ao', cap', w1, hrun, hown, hgrow⟩

theorem wpList_appendD {ops : Array Oper} {rest : List Oper} {o : Oper} {a : Act} {Q : Exit → Act → World → Prop} (hgd : o.guard = none) (s x : Operand)
    (ho : o.op = .call { callee := .builtin .append, args := #[s, x], argTypes := #[29, 29] }) (hty : o.type = 29)
    (w : World) (base : Nat) (v : Value) (ds ps : List (List Nat)) (ao : Option Addr) (n c : Nat) (h : w.ownsRow base 26 32 v ds.length (flatD ds)) (hr : RdD w (.slice ao n c) ps) (hl : ds.length + ps.length ≤ 1000000000000) (hb : base ≤ w.heap.size)
    (hs : a.eval s = v) (hx : a.eval x = .slice ao n c)
    (hK : ∀ ao' cap' w1, Hid (w1.ownsRow base 26 32 (.slice ao' (ds.length + ps.length) cap') (ds ++ ps).length (flatD (ds ++ ps))) → Hid (w.grownBy w1 v.ownBlock) →
      wpList Tryd.prog ops Q rest (a.put o.dst (.slice ao' (ds.length + ps.length) cap')) w1) :
    wpList Tryd.prog ops Q (o :: rest) a w := by
  obtain ⟨ao', cap', w1, hrun, h2, h3⟩ := appendD w base v ds ps ao n c h hr hl hb
  refine wpList_plain hgd fun K hK' => ?_
  unfold Oper.wp execOp
  simp only [ho, hty, resolve, invoke, builtin, Sem.run_bind, Sem.run_pure, Result.andThen_ok, List.map_toArray, List.map_cons, List.map_nil, hs, hx, hrun]
  exact hK' _ _ (hK ao' cap' w1 h2 h3)

end Go.Proofs.YtbbjbpjpejekgaaDoor
namespace Go.Proofs.YtbbjbpjpejekgaaDoor
open Go.RowKit Go.BigFrame
set_option linter.unusedVariables false
set_option linter.unusedSimpArgs false

/-- A Node of the laws through the layers: an OpD, its kind from 0 on, no width. -/
def ndC (o : OpD) (pv kv dv : Value) : List Value := [.int .u8 o.kd, pv] ++ (o.l.map u8 ++ (o.r.map u8 ++ ([kv, .int .u16 (o.x : Int), dv] ++ (rootC o.s o.lg o.mp ++ []))))
structure OkP (o : OpD) : Prop where
  l : Dg o.l
  r : Dg o.r
  x : o.x < 65536
  ds : ∀ d ∈ o.ds, Dg d
  s : o.s < 18446744073709551616
  lg : Dg o.lg
  mp : Dg o.mp
theorem OkD.p' {w : World} {o : OpD} {pv kv dv : Value} (h : OkD w o pv kv dv) : OkP o := ⟨h.l, h.r, h.x, h.ds.digs, h.s, h.lg, h.mp⟩
theorem inB_iffP {a b : OpD} (ha : OkP a) (hb : OkP b) (hz : a.z = b.z) (ka' : 1 ≤ a.kd ∧ a.kd ≤ 6) (kb' : 1 ≤ b.kd ∧ b.kd ≤ 6) (ea : inE a = 0) (eb : inE b = 0) :
    inB a = inB b ↔ a.kd = b.kd ∧ sameD a b := by
  by_cases hk : a.kd = b.kd
  · have hne : (a.kd = b.kd ∧ sameD a b) ↔ sameD a b := by simp [hk]
    rw [hne]
    unfold sameD
    unfold inE at ea eb
    unfold inB
    rw [← hk] at eb ⊢
    rcases (by omega : a.kd = 1 ∨ a.kd = 2 ∨ a.kd = 3 ∨ a.kd = 4 ∨ a.kd = 5 ∨ a.kd = 6) with h | h | h | h | h | h
    · simp [h]
    · simp only [h] at ea eb ⊢
      simp at ea eb ⊢
      unfold nodeB
      rw [← hz] at eb ⊢
      obtain ⟨_, fa⟩ := formedE_zero ea
      obtain ⟨_, fb⟩ := formedE_zero eb
      constructor
      · intro h9
        simp only [List.cons.injEq, true_and] at h9
        obtain ⟨h1, h2⟩ := two_takes ha.l.1 ha.r.1 hb.l.1 hb.r.1 h9
        exact ⟨form_take (fa _ (by simp)) (fb _ (by simp)) h1, form_take (fa _ (by simp)) (fb _ (by simp)) h2⟩
      · rintro ⟨h1, h2⟩; rw [h1, h2]
    · simp [h]
    · simp [h, buckB_inj]
    · simp only [h] at ea eb ⊢
      simp at ea eb ⊢
      unfold branchB
      rw [← hz] at eb ⊢
      obtain ⟨ea1, _, ea3⟩ := branchE_zero ea
      obtain ⟨eb1, _, eb3⟩ := branchE_zero eb
      obtain ⟨_, fa⟩ := formedE_zero ea1
      obtain ⟨_, fb⟩ := formedE_zero eb1
      constructor
      · intro h9
        simp only [List.cons_append, List.cons.injEq, true_and] at h9
        obtain ⟨h1, h2⟩ := List.append_inj h9 (by simp [wide_len])
        have hx : a.x = b.x := wideInj 2 _ _ (by have := ha.x; have := hb.x; omega) h1
        refine ⟨hx, kidsB_inj _ _ (by rw [← ea3, ← eb3, hx]) (fun d hd => (ha.ds d hd).1) (fun d hd => (hb.ds d hd).1) fa fb h2⟩
      · rintro ⟨h1, h2⟩; rw [h1, h2]
    · simp only [h] at ea eb ⊢
      simp at ea eb ⊢
      unfold rootB
      rw [← hz] at eb ⊢
      obtain ⟨_, fa⟩ := formedE_zero ea
      obtain ⟨_, fb⟩ := formedE_zero eb
      constructor
      · intro h9
        simp only [List.cons.injEq, true_and] at h9
        obtain ⟨h1, h2⟩ := List.append_inj h9 (by simp [wide_len])
        have hs : a.s = b.s := wideInj 8 _ _ (by have := ha.s; have := hb.s; omega) h1
        obtain ⟨h3, h4⟩ := two_takes ha.lg.1 ha.mp.1 hb.lg.1 hb.mp.1 h2
        exact ⟨hs, form_take (fa _ (by simp)) (fb _ (by simp)) h3, form_take (fa _ (by simp)) (fb _ (by simp)) h4⟩
      · rintro ⟨h1, h2, h3⟩; rw [h1, h2, h3]
  · constructor
    · intro h9
      obtain ⟨t, ht⟩ := inB_head a
      obtain ⟨t', ht'⟩ := inB_head b
      rw [ht, ht'] at h9
      simp only [List.cons.injEq] at h9
      have h8 := h9.1
      unfold tagOf at h8
      exfalso
      revert h8
      rcases (by omega : a.kd = 1 ∨ a.kd = 2 ∨ a.kd = 3 ∨ a.kd = 4 ∨ a.kd = 5 ∨ a.kd = 6) with h | h | h | h | h | h <;>
      rcases (by omega : b.kd = 1 ∨ b.kd = 2 ∨ b.kd = 3 ∨ b.kd = 4 ∨ b.kd = 5 ∨ b.kd = 6) with h' | h' | h' | h' | h' | h' <;>
      simp_all
    · rintro ⟨h9, _⟩; exact absurd h9 hk

/-- As many digests as the bitmap has ones below n: the node's own, then noughts. -/
def kidI (k x : Nat) (ds : List (List Nat)) : Nat → List (List Nat)
  | 0 => []
  | n + 1 => if x / 2 ^ n % 2 = 0 then kidI k x ds n else kidI k x ds n ++ [cutL k (ds.getD (kidI k x ds n).length zD)]
theorem zD_dg' : Dg zD := ⟨by simp [zD], by intro x hx; simp [zD] at hx; omega⟩
theorem getD_dg {ds : List (List Nat)} (h : ∀ d ∈ ds, Dg d) (i : Nat) : Dg (ds.getD i zD) := by
  rw [List.getD_eq_getElem?_getD]
  cases e : ds[i]? with
  | none => exact zD_dg'
  | some d => exact h d (List.mem_of_getElem? e)
theorem kidI_dg {k x : Nat} {ds : List (List Nat)} (hk : k ≤ 32) (h : ∀ d ∈ ds, Dg d) : ∀ n, ∀ d ∈ kidI k x ds n, Dg d
  | 0 => by simp [kidI]
  | n + 1 => by
    unfold kidI
    split
    · exact kidI_dg hk h n
    · intro d hd
      rcases List.mem_append.1 hd with hd | hd
      · exact kidI_dg hk h n d hd
      · rw [List.mem_singleton] at hd; subst hd; exact cut_dg hk (getD_dg h _)
theorem kidI_form {k x : Nat} {ds : List (List Nat)} (h1 : 1 ≤ k) (hk : k ≤ 32) (h : ∀ d ∈ ds, Dg d) : ∀ n, ∀ d ∈ kidI k x ds n, formB (k : Int) d = true
  | 0 => by simp [kidI]
  | n + 1 => by
    unfold kidI
    split
    · exact kidI_form h1 hk h n
    · intro d hd
      rcases List.mem_append.1 hd with hd | hd
      · exact kidI_form h1 hk h n d hd
      · rw [List.mem_singleton] at hd; subst hd; exact cut_form h1 hk (getD_dg h _)
def bsum (x : Nat) : Nat → Nat
  | 0 => 0
  | n + 1 => bsum x n + x / 2 ^ n % 2
theorem kidI_len (k x : Nat) (ds : List (List Nat)) : ∀ n, (kidI k x ds n).length = bsum x n
  | 0 => rfl
  | n + 1 => by
    unfold kidI bsum
    split
    · rename_i h; rw [kidI_len k x ds n, h]; rfl
    · rw [List.length_append, kidI_len k x ds n]
      simp; omega
theorem bsum_le (x : Nat) : ∀ n, bsum x n ≤ n
  | 0 => Nat.le_refl _
  | n + 1 => by have := bsum_le x n; unfold bsum; omega
theorem ones_bsum (x : Nat) (h : x < 65536) : bsum x 16 = ones x := by
  have st : ∀ i, i < 16 → ones (x / 2 ^ i) = x / 2 ^ i % 2 + ones (x / 2 ^ (i + 1)) := by
    intro i _
    rw [ones_step (x / 2 ^ i) (Nat.lt_of_le_of_lt (Nat.div_le_self _ _) h), Nat.div_div_eq_div_mul, Nat.pow_succ]
  have key : ∀ n, n ≤ 16 → ones x = bsum x n + ones (x / 2 ^ n) := by
    intro n
    induction n with
    | zero => intro _; simp [bsum]
    | succ n ih => intro hn; rw [ih (by omega), st n (by omega), show bsum x (n + 1) = bsum x n + x / 2 ^ n % 2 from rfl]; omega
  have h16 := key 16 (Nat.le_refl _)
  rw [Nat.div_eq_of_lt (by omega)] at h16
  have h0 : ones 0 = 0 := by decide
  omega
def kidL (k x : Nat) (ds : List (List Nat)) : List (List Nat) := kidI k x ds 16
theorem kidL_len (k x : Nat) (ds : List (List Nat)) (h : x < 65536) : (kidL k x ds).length = ones x := by unfold kidL; rw [kidI_len, ones_bsum x h]
/-- The thing of digest's whose input a node has. -/
def tp (k : Nat) (o : OpD) : OpD := { o with kd := o.kd + 1, z := (k : Int), l := cutL k o.l, r := cutL k o.r, ds := kidL k o.x o.ds, lg := cutL k o.lg, mp := cutL k o.mp }
theorem tp_ok {k : Nat} {o : OpD} (hk : k ≤ 32) (h : OkP o) : OkP (tp k o) := ⟨cut_dg hk h.l, cut_dg hk h.r, h.x, kidI_dg hk h.ds 16, h.s, cut_dg hk h.lg, cut_dg hk h.mp⟩
theorem formedE_all {z : Int} {ds : List (List Nat)} (hw : widthB z = true) (h : ∀ d ∈ ds, formB z d = true) : formedE z ds = 0 := by
  unfold formedE
  rw [hw]
  simp only [Bool.true_eq_false, if_false]
  rw [if_pos (by rw [List.all_eq_true]; exact h)]
theorem wide_k {k : Nat} (h1 : 1 ≤ k) (hk : k ≤ 32) : widthB (k : Int) = true := by simp [widthB]; omega
theorem form_two {k : Nat} {l r : List Nat} (h1 : 1 ≤ k) (hk : k ≤ 32) (hl : Dg l) (hr : Dg r) : formedE (k : Int) [cutL k l, cutL k r] = 0 :=
  formedE_all (wide_k h1 hk) (by intro d hd; simp at hd; rcases hd with rfl | rfl; exact cut_form h1 hk hl; exact cut_form h1 hk hr)
theorem form_kids {k x : Nat} {ds : List (List Nat)} (h1 : 1 ≤ k) (hk : k ≤ 32) (hx : x < 65536) (h0 : x ≠ 0) (h : ∀ d ∈ ds, Dg d) : branchE (k : Int) x (kidL k x ds) = 0 := by
  unfold branchE
  rw [formedE_all (ds := kidL k x ds) (wide_k h1 hk) (kidI_form h1 hk h 16)]
  rw [if_pos rfl, if_neg (by rw [kidL_len k x ds hx]; omega)]
theorem tp_ok0 {k : Nat} {o : OpD} (h1 : 1 ≤ k) (hk : k ≤ 32) (h : OkP o) (hx : o.kd = 4 → o.x ≠ 0) (hk5 : 0 ≤ o.kd ∧ o.kd ≤ 5) : inE (tp k o) = 0 := by
  unfold inE tp
  simp only
  rcases (by omega : o.kd = 0 ∨ o.kd = 1 ∨ o.kd = 2 ∨ o.kd = 3 ∨ o.kd = 4 ∨ o.kd = 5) with e | e | e | e | e | e
  · simp [e]
  · simp [e]; exact form_two h1 hk h.l h.r
  · simp [e]
  · simp [e]
  · simp [e]; exact form_kids h1 hk h.x (hx e) h.ds
  · simp [e]; exact form_two h1 hk h.lg h.mp
/-- The bytes whose digest a node has. -/
def ndB (k : Nat) (o : OpD) : List Nat := if o.kd ≤ 5 then inB (tp k o) else if o.kd = 6 then [] else [5]
/-- Are the two the same node? -/
def ndL (k : Nat) (a b : OpD) : Prop := if a.kd = b.kd then (if a.kd ≤ 5 then sameD (tp k a) (tp k b) else True) else (6 < a.kd ∧ 6 < b.kd)
instance (k : Nat) (a b : OpD) : Decidable (ndL k a b) := by unfold ndL; infer_instance
theorem tag5 (k : Int) : tagOf k ≠ 5 := by unfold tagOf; repeat' split
                                           all_goals decide
theorem ndB_iff {k : Nat} {a b : OpD} (h1 : 1 ≤ k) (hk : k ≤ 32) (ha : OkP a) (hb : OkP b) (ka : 0 ≤ a.kd) (kb : 0 ≤ b.kd) (xa : a.kd = 4 → a.x ≠ 0) (xb : b.kd = 4 → b.x ≠ 0) : ndB k a = ndB k b ↔ ndL k a b := by
  obtain ⟨ta, hta⟩ := inB_head (tp k a)
  obtain ⟨tb, htb⟩ := inB_head (tp k b)
  have na := tag5 (tp k a).kd
  have nb := tag5 (tp k b).kd
  unfold ndB ndL
  by_cases a5 : a.kd ≤ 5
  · rw [if_pos a5]
    by_cases b5 : b.kd ≤ 5
    · rw [if_pos b5, inB_iffP (tp_ok hk ha) (tp_ok hk hb) rfl (by show 1 ≤ a.kd + 1 ∧ a.kd + 1 ≤ 6; omega) (by show 1 ≤ b.kd + 1 ∧ b.kd + 1 ≤ 6; omega) (tp_ok0 h1 hk ha xa ⟨ka, a5⟩) (tp_ok0 h1 hk hb xb ⟨kb, b5⟩)]
      by_cases e : a.kd = b.kd
      · rw [if_pos e, if_pos a5]
        exact ⟨fun h => h.2, fun h => ⟨by show a.kd + 1 = b.kd + 1; omega, h⟩⟩
      · rw [if_neg e]
        exact ⟨fun h => absurd (by have h2 : a.kd + 1 = b.kd + 1 := h.1; omega) e, fun h => by omega⟩
    · rw [if_neg b5, if_neg (by omega : ¬ a.kd = b.kd), hta]
      by_cases b6 : b.kd = 6
      · rw [if_pos b6]; simp; omega
      · rw [if_neg b6]
        constructor
        · intro h; simp only [List.cons.injEq] at h; exact absurd h.1 na
        · intro h; omega
  · rw [if_neg a5]
    by_cases b5 : b.kd ≤ 5
    · rw [if_pos b5, if_neg (by omega : ¬ a.kd = b.kd), htb]
      by_cases a6 : a.kd = 6
      · rw [if_pos a6]; simp; omega
      · rw [if_neg a6]
        constructor
        · intro h; simp only [List.cons.injEq] at h; exact absurd h.1.symm nb
        · intro h; omega
    · rw [if_neg b5]
      by_cases a6 : a.kd = 6 <;> by_cases b6 : b.kd = 6
      · simp [a6, b6]
      · rw [if_pos a6, if_neg b6, if_neg (by omega)]; simp; omega
      · rw [if_neg a6, if_pos b6, if_neg (by omega)]; simp; omega
      · rw [if_neg a6, if_neg b6]
        by_cases e : a.kd = b.kd
        · simp [e, a5, b5]
        · rw [if_neg e]; simp; omega
theorem nd_cells {w : World} {g : Nat} {t : TypeId} {fr : Nat × Nat} {o : OpD} {pv kv dv : Value} (h : w.heap[g]? = some (.cells (ndC o pv kv dv).toArray t fr)) (hl : o.l.length = 32) (hr : o.r.length = 32) (hlg : o.lg.length = 32) :
    (w.cell? ⟨g, 0, none⟩ = some (.int .u8 o.kd) ∧ w.cell? ⟨g, 1, none⟩ = some pv) ∧ w.rangeAt g 2 (o.l.map u8) ∧ w.rangeAt g 34 (o.r.map u8) ∧
    (w.cell? ⟨g, 66, none⟩ = some kv ∧ w.cell? ⟨g, 67, none⟩ = some (.int .u16 (o.x : Int)) ∧ w.cell? ⟨g, 68, none⟩ = some dv) ∧ w.rangeAt g 69 (rootC o.s o.lg o.mp) ∧ w.cell? ⟨g, 69, none⟩ = some (.int .u64 (o.s : Int)) ∧ w.rangeAt g 70 (o.lg.map u8) ∧ w.rangeAt g 102 (o.mp.map u8) := by
  unfold ndC at h
  have h2 := row_mid (n := 2) _ _ _ h rfl
  have h34 := row_mid (n := 34) ([.int .u8 o.kd, pv] ++ o.l.map u8) _ _ (by simpa using h) (by simp [hl])
  have h66 := row_mid (n := 66) ([.int .u8 o.kd, pv] ++ o.l.map u8 ++ o.r.map u8) [kv, .int .u16 (o.x : Int), dv] _ (by simpa using h) (by simp [hl, hr])
  have h69 := row_mid (n := 69) ([.int .u8 o.kd, pv] ++ o.l.map u8 ++ o.r.map u8 ++ [kv, .int .u16 (o.x : Int), dv]) (rootC o.s o.lg o.mp) [] (by simpa using h) (by simp [hl, hr])
  have h70 := row_mid (n := 70) ([.int .u8 o.kd, pv] ++ o.l.map u8 ++ o.r.map u8 ++ [kv, .int .u16 (o.x : Int), dv, .int .u64 (o.s : Int)]) (o.lg.map u8) (o.mp.map u8) (by simpa [rootC] using h) (by simp [hl, hr])
  have h102 := row_mid (n := 102) ([.int .u8 o.kd, pv] ++ o.l.map u8 ++ o.r.map u8 ++ [kv, .int .u16 (o.x : Int), dv, .int .u64 (o.s : Int)] ++ o.lg.map u8) (o.mp.map u8) [] (by simpa [rootC] using h) (by simp [hl, hr, hlg])
  have c : ∀ j v, ([.int .u8 o.kd, pv] : List Value)[j]? = some v → w.cell? ⟨g, j, none⟩ = some v := by
    intro j v hv
    rw [cell_of_row w g _ _ t fr h, List.getElem?_toArray, List.getElem?_append_left (List.getElem?_eq_some_iff.1 hv).1, hv]
  exact ⟨⟨c 0 _ rfl, c 1 _ rfl⟩, h2, h34, ⟨h66 0 _ rfl, h66 1 _ rfl, h66 2 _ rfl⟩, h69, h69 0 _ rfl, h70, h102⟩
end Go.Proofs.YtbbjbpjpejekgaaDoor
namespace Go.Proofs.YtbbjbpjpejekgaaDoor
open Go.RowKit Go.BigFrame
set_option linter.unusedVariables false
set_option linter.unusedSimpArgs false

/-- A list of digests in memory of its own. -/
structure OwD (w0 w : World) (v : Value) (ds : List (List Nat)) : Prop where
  own : w.ownsRow w0.heap.size 26 32 v ds.length (flatD ds)
  dg : ∀ d ∈ ds, Dg d
  kept : Kept [] w0 w
theorem OwD.rd {w0 w : World} {v : Value} {ds : List (List Nat)} (h : OwD w0 w v ds) : RdD w v ds := rdd_owns h.own h.dg
theorem OwD.pass {w0 w w' : World} {v : Value} {ds : List (List Nat)} (h : OwD w0 w v ds) (k : Kept [] w w') : OwD w0 w' v ds := ⟨k.owns h.own (by simp), h.dg, h.kept.trans k (by simp)⟩
theorem OwD.nil (w : World) : OwD w w (.slice none 0 0) [] := ⟨World.ownsRow_nil _ _ _ _, by simp, Kept.refl _ _⟩
theorem OwD.push {w0 w w1 : World} {v u : Value} {ds : List (List Nat)} {d : List Nat} (h : OwD w0 w v ds) (hd : Dg d) (o : w1.ownsRow w0.heap.size 26 32 u (ds ++ [d]).length (flatD (ds ++ [d]))) (g : w.grownBy w1 v.ownBlock) : OwD w0 w1 u (ds ++ [d]) := by
  refine ⟨o, ?_, h.kept.grown g (by intro k hk; right; exact (h.own.lt k hk).1)⟩
  intro x hx
  rcases List.mem_append.1 hx with hx | hx
  · exact h.dg x hx
  · rw [List.mem_singleton] at hx; subst hx; exact hd
theorem one_digP (l : List Nat) (hl : l.length = 32) : List.foldl (fun cs x => cs.setIfInBounds x.snd x.fst) (zb 32) (List.map u8 l).zipIdx = brow l := by
  have h := fold_put (l.map u8) (zb 32) 0 0 (by rw [zb_size]; simp [hl])
  simp only [Nat.zero_add] at h
  rw [h]
  unfold brow
  rw [List.take_zero, List.nil_append, List.drop_eq_nil_of_le (by rw [List.length_map, hl, Array.length_toList, zb_size]; exact Nat.le_refl _), List.append_nil]
theorem u16_and1 (m : Nat) (h : m < 65536) : bits .and .u16 (m : Int) 1 = ((m % 2 : Nat) : Int) := by
  have h1 : (BitVec.ofInt 16 (m : Int)).toNat = m := by rw [BitVec.ofInt_natCast, BitVec.toNat_ofNat]; exact Nat.mod_eq_of_lt (by omega)
  have h2 : (BitVec.ofInt 16 (1 : Int)).toNat = 1 := by decide
  show IntKind.u16.wrap ((BitVec.ofInt 16 (m : Int) &&& BitVec.ofInt 16 (1 : Int)).toNat : Int) = _
  rw [BitVec.toNat_and, h1, h2, show (1 : Nat) = 2 ^ 1 - 1 by rfl, Nat.and_two_pow_sub_one_eq_mod]
  simp [IntKind.wrap, IntKind.signed, IntKind.bits]
  omega
theorem wpList_shrT {P : Program} {ops : Array Oper} {rest : List Oper} {o : Oper} {a : Act} {w : World} {Q : Exit → Act → World → Prop} (hgd : o.guard = none) (t t2 : TypeId) (x y : Operand)
    (ho : o.op = .binOp .shr t x y t2) (b i q : Nat) (hi : i < 16) (hx : a.eval x = .int .u16 (b : Int)) (hy : a.eval y = .int .i64 (i : Int)) (hq : (b : Int) / 2 ^ i = (q : Int)) (hK : wpList P ops Q rest (a.put o.dst (.int .u16 (q : Int))) w) : wpList P ops Q (o :: rest) a w := by
  have e : (Op.shift .shr .u16 (b : Int) .i64 (i : Int)).run P w = .ok (.int .u16 (q : Int)) w := by
    rw [shift_shr .u16 .i64 (b : Int) (i : Int) (by omega) (by simp [IntKind.bits]; omega), Int.toNat_natCast, hq]
    rfl
  refine wpList_plain hgd fun K hK' => ?_
  unfold Oper.wp execOp
  simp only [ho, hx, hy, binOp, eqGuard, Sem.run_bind, Bool.not_false, if_true, Sem.run_pure, Result.andThen_ok, e]
  exact hK' _ _ hK
theorem cut_zD {k : Nat} (hk : k ≤ 32) : cutL k zD = zD := by
  unfold cutL zD
  rw [List.take_replicate, List.replicate_append_replicate]
  congr 1; omega
theorem RdD.formT {w : World} {v : Value} {ds : List (List Nat)} (h : RdD w v ds) : ∃ ao c, v = .slice ao ds.length c := by
  obtain ⟨ao, len, cap, rfl, h1, _⟩ := h
  exact ⟨ao, cap, by rw [h1]⟩
theorem RdD.atT {w : World} {ao : Option Addr} {n c : Nat} {ds : List (List Nat)} (h : RdD w (.slice ao n c) ds) (i : Nat) (hi : i < ds.length) : ∃ b off, ao = some ⟨b, off, none⟩ ∧ w.rangeAt b (off + i * 32) ((ds.getD i zD).map u8) := by
  obtain ⟨ao', len, cap, e, h1, h2, h3, h4, h5⟩ := h
  cases e
  obtain ⟨b, off, rfl, hc⟩ := h5 (by omega)
  refine ⟨b, off, rfl, ?_⟩
  have := hc i (by omega)
  rw [List.getD_eq_getElem?_getD, List.getElem?_eq_getElem hi] at this ⊢
  exact this
theorem kidI_succ (k x : Nat) (ds : List (List Nat)) (n : Nat) : kidI k x ds (n + 1) = if x / 2 ^ n % 2 = 0 then kidI k x ds n else kidI k x ds n ++ [cutL k (ds.getD (kidI k x ds n).length zD)] := rfl

set_option maxRecDepth 100000 in
set_option maxHeartbeats 1000000 in
theorem kids_any (k : Nat) (o : OpD) (pv kv dv : Value) (w : World) (h : OkD w o pv kv dv) (h1 : 1 ≤ k) (hk : k ≤ 32) :
    Calls Tryd.prog 61 #[.int .i64 k, .agg (ndC o pv kv dv).toArray] w fun e w' => ∃ u, e = .returned u ∧ RdD w' u (kidL k o.x o.ds) ∧ Kept [] w w' := by
  obtain ⟨A, hA⟩ : ∃ C, (ndC o pv kv dv).toArray = C := ⟨_, rfl⟩
  have HG := heap_alloc_new w (.cells A 56)
  obtain ⟨x1, x2, x3, ⟨x4, c67, c68⟩, x5⟩ := nd_cells (o := o) (pv := pv) (kv := kv) (dv := dv) (by rw [hA]; exact HG) h.l.1 h.r.1 h.lg.1
  have HK0 := hide ((Kept.refl [] w).alloc (.cells A 56))
  have HDS := hide (h.ds.old (unhide HK0))
  have HDG := hide h.ds.digs
  have hx := h.x
  obtain ⟨da, dc, rfl⟩ := h.ds.formT
  rw [hA]
  clear HG hA h x1 x2 x3 x4 x5
  unfold kidL
  generalize o.x = x at c67 hx
  generalize o.ds = ds at c68 HDS HDG
  go_enter Tryd.func61, Tryd.ntmps61
  go_wp2_with fail
  obtain ⟨W0, hW0⟩ : ∃ W, w.alloc (.cells A 56) = W := ⟨_, rfl⟩
  rw [hW0] at c67 c68 HK0 HDS ⊢
  clear hW0
  have C67 := hide c67
  have C68 := hide c68
  clear c67 c68
  go_loopw [5, 6] (fun t5 t6 wr => ∃ (i : Nat), i ≤ 16 ∧ t6 = .int .i64 i ∧ Hid (OwD W0 wr t5 (kidI k x ds i))) (fun _ t _ => 16 - (intOf t).toNat)
  case atStart => exact ⟨0, by omega, rfl, hide (OwD.nil _)⟩
  case round =>
    obtain ⟨i, hi, rfl, HO⟩ := hrel
    by_cases hlt : i < 16
    · have hlt' : (i : Int) < 16 := by omega
      have HS := hide (kidI_succ k x ds i)
      have HLN := hide (by rw [kidI_len]; have := bsum_le x i; omega : (kidI k x ds i).length + 1 ≤ 1000000)
      have q67 := (unhide HO).kept.cell (unhide C67) (by simp)
      have q68 := (unhide HO).kept.cell (unhide C68) (by simp)
      obtain ⟨q, hq⟩ : ∃ q, x / 2 ^ i = q := ⟨_, rfl⟩
      have hq9 : q < 65536 := by rw [← hq]; exact Nat.lt_of_le_of_lt (Nat.div_le_self _ _) hx
      rw [hq] at HS
      have HQ := hide (by rw [← hq, Int.natCast_ediv]; simp : (x : Int) / 2 ^ i = (q : Int))
      have hand := u16_and1 q hq9
      clear hq
      by_cases hbit : q % 2 = 0
      · rw [if_pos hbit] at HS
        rw [hbit] at hand
        clear hbit hq9
        go_wp2_with (refine wpList_shrT rfl _ _ _ _ rfl x i _ hlt rfl rfl (unhide HQ) ?_)
        go_roundw
        case rel => exact ⟨i + 1, by omega, by go_num, hide (by rw [unhide HS]; exact unhide HO)⟩
        case measure => simp [intOf]; omega
      · rw [if_neg hbit] at HS
        rw [show q % 2 = 1 by omega] at hand
        clear hbit hq9
        generalize kidI k x ds i = ks at HO HS HLN
        obtain ⟨ua, ucap, hu⟩ := owns_form (unhide HO).own
        subst hu
        have HDN := hide (getD_dg (unhide HDG) ks.length)
        by_cases hlen : ks.length < ds.length
        · have hlen' : (ks.length : Int) < ds.length := by omega
          have ia : ¬ (ks.length : Int) < 0 := by omega
          have ib : ¬ (ds.length : Int) ≤ ks.length := by omega
          obtain ⟨b, off, rfl, hcell⟩ := ((unhide HDS).old (unhide HO).kept).atT ks.length hlen
          generalize ds.getD ks.length zD = d at HDN HS hcell
          have kz := (Kept.refl [] wr).alloc (.cells (zb 32) 26)
          have HRG := hide (range_kept hcell kz (by simp))
          have HS1 := hide (by rw [List.length_map, (unhide HDN).1]; exact Tryd.size_dig : (Tryd.prog.info? 26).map (·.size) = some (d.map Go.Proofs.YtbbjbpjpejekgaaDoor.u8).length)
          have p67 := kz.cell q67 (by simp)
          have p68 := kz.cell q68 (by simp)
          have HDD := hide (cut_dg hk (unhide HDN))
          have HCUT := hide (fun W => tcut_any k d W h1 hk (unhide HDN).1 (unhide HDN).2)
          generalize cutL k d = D at HS HDD HCUT
          have hdl := (unhide HDD).1
          have HKZ := hide kz
          clear kz hcell
          go_wp2_with (first
            | (refine wpList_shrT rfl _ _ _ _ rfl x i _ hlt rfl rfl (unhide HQ) ?_)
            | (rw [zb32])
            | (refine wpList_load_mid rfl 26 _ rfl b (off + ks.length * 32) rfl (d.map Go.Proofs.YtbbjbpjpejekgaaDoor.u8) _ (unhide HRG) Tryd.underlying26 rfl (unhide HS1) ?_))
          refine Calls.mono (unhide HCUT _) ?_
          rintro e w1 ⟨rfl, k1⟩
          have HZ1 := hide (k1.heap (heap_alloc_new wr (.cells (zb 32) 26)) (by simp))
          have HKb := hide (((unhide HKZ).trans k1 (by simp)).setRow (g := wr.heap.size) (Or.inr (Nat.le_refl _)) (brow D))
          have HN := hide (setRow_heap w1 wr.heap.size _ (brow D) 26 (0, 0) (unhide HZ1))
          obtain ⟨wb, hwb⟩ : ∃ wb, w1.setRow wr.heap.size (brow D) = wb := ⟨_, rfl⟩
          rw [hwb] at HKb HN
          have HWB := hide hwb
          have HOC := hide (((unhide HO).pass (unhide HKb)).pass ((Kept.refl [] wb).alloc (.cells (brow D) 26)))
          have HNC := hide (heap_alloc_new wb (.cells (brow D) 26))
          clear hwb k1 HKZ HO HCUT p67 p68 q67 q68 hand HRG
          go_wp2_with (first
            | (refine wpList_store_row rfl 26 (.tmp 7) _ rfl wr.heap.size (brow D) rfl rfl _ (zb 32) (unhide HZ1) (Tryd.szD hdl) (by rw [zb_size, brow_size, hdl]) (brow_one _) ?_; rw [unhide HWB])
            | (refine wpList_load_mid rfl 26 _ rfl wr.heap.size 0 rfl (D.map Go.Proofs.YtbbjbpjpejekgaaDoor.u8) _ (range_row (unhide HN)) Tryd.underlying26 rfl (by rw [List.length_map, hdl]; exact Tryd.size_dig) ?_)
            | (at_builtin; rw [zb32, one_digP D hdl]; refine wpList_appendD rfl _ _ rfl rfl (wb.alloc (.cells (brow D) 26)) W0.heap.size (.slice ua ks.length ucap) ks [D] (some ⟨wb.heap.size, 0, none⟩) 1 1 (unhide HOC).own (RdD.oneP (unhide HNC) (unhide HDD)) (by have := unhide HLN; simp; omega) (unhide HOC).kept.size rfl rfl ?_; intro ao3 cap3 w3 HO3 HG3; have HO4 := hide ((unhide HOC).push (unhide HDD) (unhide HO3) (unhide HG3)); clear HO3 HG3))
          go_roundw
          case rel => exact ⟨i + 1, by omega, by simp, by rw [unhide HS]; exact HO4⟩
          case measure => simp [intOf]; omega
        · have hlen' : ¬ (ks.length : Int) < ds.length := by omega
          have HS2 := hide (by have h9 := unhide HS; rw [List.getD_eq_getElem?_getD, List.getElem?_eq_none (by omega), Option.getD_none, cut_zD hk] at h9; exact h9 : kidI k x ds (i + 1) = ks ++ [zD])
          have kz := (Kept.refl [] wr).alloc (.cells (zb 32) 26)
          have HN := hide (heap_alloc_new wr (.cells (zb 32) 26))
          have p67 := kz.cell q67 (by simp)
          have p68 := kz.cell q68 (by simp)
          have HDD := hide zD_dg'
          have HOB := hide ((unhide HO).pass kz)
          obtain ⟨D, hD⟩ : ∃ D, zD = D := ⟨_, rfl⟩
          have HZD := hide (by rw [← hD]; rfl : zb 32 = brow D)
          rw [hD] at HS2 HDD
          have hdl := (unhide HDD).1
          clear kz hD
          obtain ⟨wb, hwb⟩ : ∃ wb, wr.alloc (.cells (zb 32) 26) = wb := ⟨_, rfl⟩
          rw [hwb] at HOB HN p67 p68
          rw [unhide HZD] at HN
          have HWB := hide hwb
          have HOC := hide ((unhide HOB).pass ((Kept.refl [] wb).alloc (.cells (brow D) 26)))
          have HNC := hide (heap_alloc_new wb (.cells (brow D) 26))
          clear hwb HO q68 HOB
          go_wp2_with (first
            | (refine wpList_shrT rfl _ _ _ _ rfl x i _ hlt rfl rfl (unhide HQ) ?_)
            | (rw [zb32, unhide HWB])
            | (refine wpList_load_mid rfl 26 _ rfl wr.heap.size 0 rfl (D.map Go.Proofs.YtbbjbpjpejekgaaDoor.u8) _ (range_row (unhide HN)) Tryd.underlying26 rfl (by rw [List.length_map, hdl]; exact Tryd.size_dig) ?_)
            | (at_builtin; rw [zb32, one_digP D hdl]; refine wpList_appendD rfl _ _ rfl rfl (wb.alloc (.cells (brow D) 26)) W0.heap.size (.slice ua ks.length ucap) ks [D] (some ⟨wb.heap.size, 0, none⟩) 1 1 (unhide HOC).own (RdD.oneP (unhide HNC) (unhide HDD)) (by have := unhide HLN; simp; omega) (unhide HOC).kept.size rfl rfl ?_; intro ao3 cap3 w3 HO3 HG3; have HO4 := hide ((unhide HOC).push (unhide HDD) (unhide HO3) (unhide HG3)); clear HO3 HG3))
          go_roundw
          case rel => exact ⟨i + 1, by omega, by simp, by rw [unhide HS2]; exact HO4⟩
          case measure => simp [intOf]; omega
    · have hlt' : ¬ (i : Int) < 16 := by omega
      obtain rfl : i = 16 := by omega
      go_wp2
      go_ret
      exact ⟨_, rfl, (unhide HO).rd, (unhide HK0).trans (unhide HO).kept (by simp)⟩
end Go.Proofs.YtbbjbpjpejekgaaDoor
/-
  Laws for drawn regions, by genreg.py. No program.
-/
namespace Go.Proofs.YtbbjbpjpejekgaaDoor
open Go Go.RowKit Go.BigFrame
set_option linter.unusedVariables false
set_option linter.unusedSimpArgs false
section
variable {P : Program} {Q : Exit → Act → World → Prop}
theorem wp_tg15 {id : Nat} {o0 o1 o2 o3 o4 o5 o6 o7 o8 o9 o10 o11 o12 o13 o14 : Oper} {a : Act} {w : World} (hm : P.follows .mixedOrders = true) (hs : Region.noSelect #[o0, o1, o2, o3, o4, o5, o6, o7, o8, o9, o10, o11, o12, o13, o14] = true)
    (f0 : Region.free .any #[o0, o1, o2, o3, o4, o5, o6, o7, o8, o9, o10, o11, o12, o13, o14] #[false, false, false, false, false, false, false, false, false, false, false, false, false, false, false] 0 = true) (r0 : (Region.ready .any #[o0, o1, o2, o3, o4, o5, o6, o7, o8, o9, o10, o11, o12, o13, o14] #[false, false, false, false, false, false, false, false, false, false, false, false, false, false, false]).contains 0 = true)
    (f1 : Region.free .any #[o0, o1, o2, o3, o4, o5, o6, o7, o8, o9, o10, o11, o12, o13, o14] #[true, false, false, false, false, false, false, false, false, false, false, false, false, false, false] 1 = true) (r1 : (Region.ready .any #[o0, o1, o2, o3, o4, o5, o6, o7, o8, o9, o10, o11, o12, o13, o14] #[true, false, false, false, false, false, false, false, false, false, false, false, false, false, false]).contains 1 = true)
    (f2 : Region.free .any #[o0, o1, o2, o3, o4, o5, o6, o7, o8, o9, o10, o11, o12, o13, o14] #[true, true, false, false, false, false, false, false, false, false, false, false, false, false, false] 2 = true) (r2 : (Region.ready .any #[o0, o1, o2, o3, o4, o5, o6, o7, o8, o9, o10, o11, o12, o13, o14] #[true, true, false, false, false, false, false, false, false, false, false, false, false, false, false]).contains 2 = true)
    (f3 : Region.free .any #[o0, o1, o2, o3, o4, o5, o6, o7, o8, o9, o10, o11, o12, o13, o14] #[true, true, true, false, false, false, false, false, false, false, false, false, false, false, false] 3 = true) (r3 : (Region.ready .any #[o0, o1, o2, o3, o4, o5, o6, o7, o8, o9, o10, o11, o12, o13, o14] #[true, true, true, false, false, false, false, false, false, false, false, false, false, false, false]).contains 3 = true)
    (f5 : Region.free .any #[o0, o1, o2, o3, o4, o5, o6, o7, o8, o9, o10, o11, o12, o13, o14] #[true, true, true, true, false, false, false, false, false, false, false, false, false, false, false] 5 = true) (r5 : (Region.ready .any #[o0, o1, o2, o3, o4, o5, o6, o7, o8, o9, o10, o11, o12, o13, o14] #[true, true, true, true, false, false, false, false, false, false, false, false, false, false, false]).contains 5 = true)
    (f6 : Region.free .any #[o0, o1, o2, o3, o4, o5, o6, o7, o8, o9, o10, o11, o12, o13, o14] #[true, true, true, true, false, true, false, false, false, false, false, false, false, false, false] 6 = true) (r6 : (Region.ready .any #[o0, o1, o2, o3, o4, o5, o6, o7, o8, o9, o10, o11, o12, o13, o14] #[true, true, true, true, false, true, false, false, false, false, false, false, false, false, false]).contains 6 = true)
    (f7 : Region.free .any #[o0, o1, o2, o3, o4, o5, o6, o7, o8, o9, o10, o11, o12, o13, o14] #[true, true, true, true, false, true, true, false, false, false, false, false, false, false, false] 7 = true) (r7 : (Region.ready .any #[o0, o1, o2, o3, o4, o5, o6, o7, o8, o9, o10, o11, o12, o13, o14] #[true, true, true, true, false, true, true, false, false, false, false, false, false, false, false]).contains 7 = true)
    (q_ : Region.ready .any #[o0, o1, o2, o3, o4, o5, o6, o7, o8, o9, o10, o11, o12, o13, o14] #[true, true, true, true, false, true, true, true, false, false, false, false, false, false, false] = [4])
    (q4_ : Region.ready .any #[o0, o1, o2, o3, o4, o5, o6, o7, o8, o9, o10, o11, o12, o13, o14] #[true, true, true, true, true, true, true, true, false, false, false, false, false, false, false] = [8])
    (q4_8_ : Region.ready .any #[o0, o1, o2, o3, o4, o5, o6, o7, o8, o9, o10, o11, o12, o13, o14] #[true, true, true, true, true, true, true, true, true, false, false, false, false, false, false] = [9])
    (f4_8_9_10 : Region.free .any #[o0, o1, o2, o3, o4, o5, o6, o7, o8, o9, o10, o11, o12, o13, o14] #[true, true, true, true, true, true, true, true, true, true, false, false, false, false, false] 10 = true) (r4_8_9_10 : (Region.ready .any #[o0, o1, o2, o3, o4, o5, o6, o7, o8, o9, o10, o11, o12, o13, o14] #[true, true, true, true, true, true, true, true, true, true, false, false, false, false, false]).contains 10 = true)
    (f4_8_9_11 : Region.free .any #[o0, o1, o2, o3, o4, o5, o6, o7, o8, o9, o10, o11, o12, o13, o14] #[true, true, true, true, true, true, true, true, true, true, true, false, false, false, false] 11 = true) (r4_8_9_11 : (Region.ready .any #[o0, o1, o2, o3, o4, o5, o6, o7, o8, o9, o10, o11, o12, o13, o14] #[true, true, true, true, true, true, true, true, true, true, true, false, false, false, false]).contains 11 = true)
    (f4_8_9_12 : Region.free .any #[o0, o1, o2, o3, o4, o5, o6, o7, o8, o9, o10, o11, o12, o13, o14] #[true, true, true, true, true, true, true, true, true, true, true, true, false, false, false] 12 = true) (r4_8_9_12 : (Region.ready .any #[o0, o1, o2, o3, o4, o5, o6, o7, o8, o9, o10, o11, o12, o13, o14] #[true, true, true, true, true, true, true, true, true, true, true, true, false, false, false]).contains 12 = true)
    (f4_8_9_13 : Region.free .any #[o0, o1, o2, o3, o4, o5, o6, o7, o8, o9, o10, o11, o12, o13, o14] #[true, true, true, true, true, true, true, true, true, true, true, true, true, false, false] 13 = true) (r4_8_9_13 : (Region.ready .any #[o0, o1, o2, o3, o4, o5, o6, o7, o8, o9, o10, o11, o12, o13, o14] #[true, true, true, true, true, true, true, true, true, true, true, true, true, false, false]).contains 13 = true)
    (f4_8_9_14 : Region.free .any #[o0, o1, o2, o3, o4, o5, o6, o7, o8, o9, o10, o11, o12, o13, o14] #[true, true, true, true, true, true, true, true, true, true, true, true, true, true, false] 14 = true) (r4_8_9_14 : (Region.ready .any #[o0, o1, o2, o3, o4, o5, o6, o7, o8, o9, o10, o11, o12, o13, o14] #[true, true, true, true, true, true, true, true, true, true, true, true, true, true, false]).contains 14 = true)
    (q4_8_9_ : Region.ready .any #[o0, o1, o2, o3, o4, o5, o6, o7, o8, o9, o10, o11, o12, o13, o14] #[true, true, true, true, true, true, true, true, true, true, true, true, true, true, true] = [])
    (g4 : o4.guard = none)    (g8 : o8.guard = none)    (g9 : o9.guard = none)
    (v0 v1 v2 v3 v5 v6 v7 : Value) (A0 A1 A2 A3 A4 A5 A6 : Act)
    (S : World → Prop)
    (I_ : World → Prop)
    (I4_ : Value → World → Prop)
    (I4_8_ : Value → Value → World → Prop)
    (I4_8_9_ : Value → Value → Value → World → Prop)
    (v10 : Value → Value)
    (v11 : Value → Value)
    (v12 : Value → Value)
    (v13 : Value → Value)
    (v14 : Value → Value)
    (p0 : a.put o0.dst v0 = A0) (hy0 : YieldsIf P #[o0, o1, o2, o3, o4, o5, o6, o7, o8, o9, o10, o11, o12, o13, o14] S o0 v0 a)
    (p1 : A0.put o1.dst v1 = A1) (hy1 : YieldsIf P #[o0, o1, o2, o3, o4, o5, o6, o7, o8, o9, o10, o11, o12, o13, o14] S o1 v1 A0)
    (p2 : A1.put o2.dst v2 = A2) (hy2 : YieldsIf P #[o0, o1, o2, o3, o4, o5, o6, o7, o8, o9, o10, o11, o12, o13, o14] S o2 v2 A1)
    (p3 : A2.put o3.dst v3 = A3) (hy3 : YieldsIf P #[o0, o1, o2, o3, o4, o5, o6, o7, o8, o9, o10, o11, o12, o13, o14] S o3 v3 A2)
    (p5 : A3.put o5.dst v5 = A4) (hy5 : YieldsIf P #[o0, o1, o2, o3, o4, o5, o6, o7, o8, o9, o10, o11, o12, o13, o14] S o5 v5 A3)
    (p6 : A4.put o6.dst v6 = A5) (hy6 : YieldsIf P #[o0, o1, o2, o3, o4, o5, o6, o7, o8, o9, o10, o11, o12, o13, o14] S o6 v6 A4)
    (p7 : A5.put o7.dst v7 = A6) (hy7 : YieldsIf P #[o0, o1, o2, o3, o4, o5, o6, o7, o8, o9, o10, o11, o12, o13, o14] S o7 v7 A5)
    (i0 : I_ w.drew)
    (hIS : (∀ w', I_  w' → S w') ∧ (∀ (u4 : Value) w', I4_ u4 w' → S w') ∧ (∀ (u4 u8 : Value) w', I4_8_ u4 u8 w' → S w') ∧ (∀ (u4 u8 u9 : Value) w', I4_8_9_ u4 u8 u9 w' → S w'))
    (s_4 : ∀ w', I_  w' → ∀ K : Act → World → Prop, (∀ (u4 : Value) w2, I4_ u4 w2 → K (A6.put o4.dst u4) w2) → o4.wp P A6 w' K (NoPanic Q))
    (s4_8 : ∀ (u4 : Value) w', I4_ u4 w' → ∀ K : Act → World → Prop, (∀ (u8 : Value) w2, I4_8_ u4 u8 w2 → K ((A6.put o4.dst u4).put o8.dst u8) w2) → o8.wp P (A6.put o4.dst u4) w' K (NoPanic Q))
    (s4_8_9 : ∀ (u4 u8 : Value) w', I4_8_ u4 u8 w' → ∀ K : Act → World → Prop, (∀ (u9 : Value) w2, I4_8_9_ u4 u8 u9 w2 → K (((A6.put o4.dst u4).put o8.dst u8).put o9.dst u9) w2) → o9.wp P ((A6.put o4.dst u4).put o8.dst u8) w' K (NoPanic Q))
    (y4_8_9_10 : ∀ (u4 u8 u9 : Value) w', I4_8_9_ u4 u8 u9 w' → YieldsIf P #[o0, o1, o2, o3, o4, o5, o6, o7, o8, o9, o10, o11, o12, o13, o14] S o10 (v10 u9) (((A6.put o4.dst u4).put o8.dst u8).put o9.dst u9))
    (y4_8_9_11 : ∀ (u4 u8 u9 : Value) w', I4_8_9_ u4 u8 u9 w' → YieldsIf P #[o0, o1, o2, o3, o4, o5, o6, o7, o8, o9, o10, o11, o12, o13, o14] S o11 (v11 u9) ((((A6.put o4.dst u4).put o8.dst u8).put o9.dst u9).put o10.dst (v10 u9)))
    (y4_8_9_12 : ∀ (u4 u8 u9 : Value) w', I4_8_9_ u4 u8 u9 w' → YieldsIf P #[o0, o1, o2, o3, o4, o5, o6, o7, o8, o9, o10, o11, o12, o13, o14] S o12 (v12 u9) (((((A6.put o4.dst u4).put o8.dst u8).put o9.dst u9).put o10.dst (v10 u9)).put o11.dst (v11 u9)))
    (y4_8_9_13 : ∀ (u4 u8 u9 : Value) w', I4_8_9_ u4 u8 u9 w' → YieldsIf P #[o0, o1, o2, o3, o4, o5, o6, o7, o8, o9, o10, o11, o12, o13, o14] S o13 (v13 u9) ((((((A6.put o4.dst u4).put o8.dst u8).put o9.dst u9).put o10.dst (v10 u9)).put o11.dst (v11 u9)).put o12.dst (v12 u9)))
    (y4_8_9_14 : ∀ (u4 u8 u9 : Value) w', I4_8_9_ u4 u8 u9 w' → YieldsIf P #[o0, o1, o2, o3, o4, o5, o6, o7, o8, o9, o10, o11, o12, o13, o14] S o14 (v14 u9) (((((((A6.put o4.dst u4).put o8.dst u8).put o9.dst u9).put o10.dst (v10 u9)).put o11.dst (v11 u9)).put o12.dst (v12 u9)).put o13.dst (v13 u9)))
    (h : ∀ (u4 u8 u9 : Value) w', I4_8_9_ u4 u8 u9 w' → Q .normal ((((((((A6.put o4.dst u4).put o8.dst u8).put o9.dst u9).put o10.dst (v10 u9)).put o11.dst (v11 u9)).put o12.dst (v12 u9)).put o13.dst (v13 u9)).put o14.dst (v14 u9)) w') :
    (Code.region id #[o0, o1, o2, o3, o4, o5, o6, o7, o8, o9, o10, o11, o12, o13, o14] true).wp P Q a w := by
  subst p0 p1 p2 p3 p5 p6 p7
  obtain ⟨z_, z4_, z4_8_, z4_8_9_⟩ := hIS
  refine wp_region_noPanic ?_
  refine wp_region_held_drew (S := S) hm (z_ _ i0) (fun hH => ?_)
  show wpAnyH P .any #[o0, o1, o2, o3, o4, o5, o6, o7, o8, o9, o10, o11, o12, o13, o14] (NoPanic Q) S 15 #[false, false, false, false, false, false, false, false, false, false, false, false, false, false, false] a w.drew
  refine wpAnyH_take (i := 0) (oi := o0) rfl hs f0 r0 (fun _ _ _ h => h) hy0 hH ?_
  refine wpAnyH_take (i := 1) (oi := o1) rfl hs f1 r1 (fun _ _ _ h => h) hy1 hH ?_
  refine wpAnyH_take (i := 2) (oi := o2) rfl hs f2 r2 (fun _ _ _ h => h) hy2 hH ?_
  refine wpAnyH_take (i := 3) (oi := o3) rfl hs f3 r3 (fun _ _ _ h => h) hy3 hH ?_
  refine wpAnyH_take (i := 5) (oi := o5) rfl hs f5 r5 (fun _ _ _ h => h) hy5 hH ?_
  refine wpAnyH_take (i := 6) (oi := o6) rfl hs f6 r6 (fun _ _ _ h => h) hy6 hH ?_
  refine wpAnyH_take (i := 7) (oi := o7) rfl hs f7 r7 (fun _ _ _ h => h) hy7 hH ?_
  generalize (((((((a.put o0.dst v0).put o1.dst v1).put o2.dst v2).put o3.dst v3).put o5.dst v5).put o6.dst v6).put o7.dst v7) = B at *
  have wa4 : ∀ y, Region.wanted o4 y = true := fun y => by unfold Region.wanted; rw [g4]
  have wa8 : ∀ y, Region.wanted o8 y = true := fun y => by unfold Region.wanted; rw [g8]
  have wa9 : ∀ y, Region.wanted o9 y = true := fun y => by unfold Region.wanted; rw [g9]
  have t4_8_9_ : ∀ (u4 u8 u9 : Value) w', I4_8_9_ u4 u8 u9 w' → wpAnyH P .any #[o0, o1, o2, o3, o4, o5, o6, o7, o8, o9, o10, o11, o12, o13, o14] (NoPanic Q) S 0 #[true, true, true, true, true, true, true, true, true, true, true, true, true, true, true] ((((((((B.put o4.dst u4).put o8.dst u8).put o9.dst u9).put o10.dst (v10 u9)).put o11.dst (v11 u9)).put o12.dst (v12 u9)).put o13.dst (v13 u9)).put o14.dst (v14 u9)) w' := by
    intro u4 u8 u9 w0 i0
    exact ⟨q4_8_9_, NoPanic.normal (h u4 u8 u9 w0 i0)⟩
  have t4_8_ : ∀ (u4 u8 : Value) w', I4_8_ u4 u8 w' → wpAnyH P .any #[o0, o1, o2, o3, o4, o5, o6, o7, o8, o9, o10, o11, o12, o13, o14] (NoPanic Q) S 6 #[true, true, true, true, true, true, true, true, true, false, false, false, false, false, false] ((B.put o4.dst u4).put o8.dst u8) w' := by
    intro u4 u8 w0 i0
    refine wpAnyH_ready (rs := [9]) q4_8_ (by simp) (AllReadyH.cons (o := o9) rfl (fun K hK => ?_) AllReadyH.nil)
    · rw [if_pos (wa9 _)]
      refine s4_8_9 u4 u8 w0 i0 K (fun u9 w1 i1 => hK.out _ _ (z4_8_9_ u4 u8 u9 w1 i1) (fun _ => ?_))
      clear hK
      refine wpAnyH_take (i := 10) (oi := o10) rfl hs f4_8_9_10 r4_8_9_10 (fun _ _ _ h => h) (y4_8_9_10 u4 u8 u9 w1 i1) (z4_8_9_ u4 u8 u9 w1 i1) ?_
      refine wpAnyH_take (i := 11) (oi := o11) rfl hs f4_8_9_11 r4_8_9_11 (fun _ _ _ h => h) (y4_8_9_11 u4 u8 u9 w1 i1) (z4_8_9_ u4 u8 u9 w1 i1) ?_
      refine wpAnyH_take (i := 12) (oi := o12) rfl hs f4_8_9_12 r4_8_9_12 (fun _ _ _ h => h) (y4_8_9_12 u4 u8 u9 w1 i1) (z4_8_9_ u4 u8 u9 w1 i1) ?_
      refine wpAnyH_take (i := 13) (oi := o13) rfl hs f4_8_9_13 r4_8_9_13 (fun _ _ _ h => h) (y4_8_9_13 u4 u8 u9 w1 i1) (z4_8_9_ u4 u8 u9 w1 i1) ?_
      refine wpAnyH_take (i := 14) (oi := o14) rfl hs f4_8_9_14 r4_8_9_14 (fun _ _ _ h => h) (y4_8_9_14 u4 u8 u9 w1 i1) (z4_8_9_ u4 u8 u9 w1 i1) ?_
      exact t4_8_9_ u4 u8 u9 w1 i1
  have t4_ : ∀ (u4 : Value) w', I4_ u4 w' → wpAnyH P .any #[o0, o1, o2, o3, o4, o5, o6, o7, o8, o9, o10, o11, o12, o13, o14] (NoPanic Q) S 7 #[true, true, true, true, true, true, true, true, false, false, false, false, false, false, false] (B.put o4.dst u4) w' := by
    intro u4 w0 i0
    refine wpAnyH_ready (rs := [8]) q4_ (by simp) (AllReadyH.cons (o := o8) rfl (fun K hK => ?_) AllReadyH.nil)
    · rw [if_pos (wa8 _)]
      refine s4_8 u4 w0 i0 K (fun u8 w1 i1 => hK.out _ _ (z4_8_ u4 u8 w1 i1) (fun _ => ?_))
      clear hK
      exact t4_8_ u4 u8 w1 i1
  have t_ : ∀ w', I_  w' → wpAnyH P .any #[o0, o1, o2, o3, o4, o5, o6, o7, o8, o9, o10, o11, o12, o13, o14] (NoPanic Q) S 8 #[true, true, true, true, false, true, true, true, false, false, false, false, false, false, false] B w' := by
    intro w0 i0
    refine wpAnyH_ready (rs := [4]) q_ (by simp) (AllReadyH.cons (o := o4) rfl (fun K hK => ?_) AllReadyH.nil)
    · rw [if_pos (wa4 _)]
      refine s_4  w0 i0 K (fun u4 w1 i1 => hK.out _ _ (z4_ u4 w1 i1) (fun _ => ?_))
      clear hK
      exact t4_ u4 w1 i1
  exact t_ w.drew i0

theorem wp_tg12 {id : Nat} {o0 o1 o2 o3 o4 o5 o6 o7 o8 o9 o10 o11 : Oper} {a : Act} {w : World} (hm : P.follows .mixedOrders = true) (hs : Region.noSelect #[o0, o1, o2, o3, o4, o5, o6, o7, o8, o9, o10, o11] = true)
    (f0 : Region.free .any #[o0, o1, o2, o3, o4, o5, o6, o7, o8, o9, o10, o11] #[false, false, false, false, false, false, false, false, false, false, false, false] 0 = true) (r0 : (Region.ready .any #[o0, o1, o2, o3, o4, o5, o6, o7, o8, o9, o10, o11] #[false, false, false, false, false, false, false, false, false, false, false, false]).contains 0 = true)
    (f1 : Region.free .any #[o0, o1, o2, o3, o4, o5, o6, o7, o8, o9, o10, o11] #[true, false, false, false, false, false, false, false, false, false, false, false] 1 = true) (r1 : (Region.ready .any #[o0, o1, o2, o3, o4, o5, o6, o7, o8, o9, o10, o11] #[true, false, false, false, false, false, false, false, false, false, false, false]).contains 1 = true)
    (f2 : Region.free .any #[o0, o1, o2, o3, o4, o5, o6, o7, o8, o9, o10, o11] #[true, true, false, false, false, false, false, false, false, false, false, false] 2 = true) (r2 : (Region.ready .any #[o0, o1, o2, o3, o4, o5, o6, o7, o8, o9, o10, o11] #[true, true, false, false, false, false, false, false, false, false, false, false]).contains 2 = true)
    (f3 : Region.free .any #[o0, o1, o2, o3, o4, o5, o6, o7, o8, o9, o10, o11] #[true, true, true, false, false, false, false, false, false, false, false, false] 3 = true) (r3 : (Region.ready .any #[o0, o1, o2, o3, o4, o5, o6, o7, o8, o9, o10, o11] #[true, true, true, false, false, false, false, false, false, false, false, false]).contains 3 = true)
    (f4 : Region.free .any #[o0, o1, o2, o3, o4, o5, o6, o7, o8, o9, o10, o11] #[true, true, true, true, false, false, false, false, false, false, false, false] 4 = true) (r4 : (Region.ready .any #[o0, o1, o2, o3, o4, o5, o6, o7, o8, o9, o10, o11] #[true, true, true, true, false, false, false, false, false, false, false, false]).contains 4 = true)
    (q_ : Region.ready .any #[o0, o1, o2, o3, o4, o5, o6, o7, o8, o9, o10, o11] #[true, true, true, true, true, false, false, false, false, false, false, false] = [5])
    (q5_ : Region.ready .any #[o0, o1, o2, o3, o4, o5, o6, o7, o8, o9, o10, o11] #[true, true, true, true, true, true, false, false, false, false, false, false] = [6])
    (f5_6_7 : Region.free .any #[o0, o1, o2, o3, o4, o5, o6, o7, o8, o9, o10, o11] #[true, true, true, true, true, true, true, false, false, false, false, false] 7 = true) (r5_6_7 : (Region.ready .any #[o0, o1, o2, o3, o4, o5, o6, o7, o8, o9, o10, o11] #[true, true, true, true, true, true, true, false, false, false, false, false]).contains 7 = true)
    (f5_6_8 : Region.free .any #[o0, o1, o2, o3, o4, o5, o6, o7, o8, o9, o10, o11] #[true, true, true, true, true, true, true, true, false, false, false, false] 8 = true) (r5_6_8 : (Region.ready .any #[o0, o1, o2, o3, o4, o5, o6, o7, o8, o9, o10, o11] #[true, true, true, true, true, true, true, true, false, false, false, false]).contains 8 = true)
    (f5_6_9 : Region.free .any #[o0, o1, o2, o3, o4, o5, o6, o7, o8, o9, o10, o11] #[true, true, true, true, true, true, true, true, true, false, false, false] 9 = true) (r5_6_9 : (Region.ready .any #[o0, o1, o2, o3, o4, o5, o6, o7, o8, o9, o10, o11] #[true, true, true, true, true, true, true, true, true, false, false, false]).contains 9 = true)
    (f5_6_10 : Region.free .any #[o0, o1, o2, o3, o4, o5, o6, o7, o8, o9, o10, o11] #[true, true, true, true, true, true, true, true, true, true, false, false] 10 = true) (r5_6_10 : (Region.ready .any #[o0, o1, o2, o3, o4, o5, o6, o7, o8, o9, o10, o11] #[true, true, true, true, true, true, true, true, true, true, false, false]).contains 10 = true)
    (f5_6_11 : Region.free .any #[o0, o1, o2, o3, o4, o5, o6, o7, o8, o9, o10, o11] #[true, true, true, true, true, true, true, true, true, true, true, false] 11 = true) (r5_6_11 : (Region.ready .any #[o0, o1, o2, o3, o4, o5, o6, o7, o8, o9, o10, o11] #[true, true, true, true, true, true, true, true, true, true, true, false]).contains 11 = true)
    (q5_6_ : Region.ready .any #[o0, o1, o2, o3, o4, o5, o6, o7, o8, o9, o10, o11] #[true, true, true, true, true, true, true, true, true, true, true, true] = [])
    (g5 : o5.guard = none)    (g6 : o6.guard = none)
    (v0 v1 v2 v3 v4 : Value) (A0 A1 A2 A3 A4 : Act)
    (S : World → Prop)
    (I_ : World → Prop)
    (I5_ : Value → World → Prop)
    (I5_6_ : Value → Value → World → Prop)
    (v7 : Value → Value)
    (v8 : Value → Value)
    (v9 : Value → Value)
    (v10 : Value → Value)
    (v11 : Value → Value)
    (p0 : a.put o0.dst v0 = A0) (hy0 : YieldsIf P #[o0, o1, o2, o3, o4, o5, o6, o7, o8, o9, o10, o11] S o0 v0 a)
    (p1 : A0.put o1.dst v1 = A1) (hy1 : YieldsIf P #[o0, o1, o2, o3, o4, o5, o6, o7, o8, o9, o10, o11] S o1 v1 A0)
    (p2 : A1.put o2.dst v2 = A2) (hy2 : YieldsIf P #[o0, o1, o2, o3, o4, o5, o6, o7, o8, o9, o10, o11] S o2 v2 A1)
    (p3 : A2.put o3.dst v3 = A3) (hy3 : YieldsIf P #[o0, o1, o2, o3, o4, o5, o6, o7, o8, o9, o10, o11] S o3 v3 A2)
    (p4 : A3.put o4.dst v4 = A4) (hy4 : YieldsIf P #[o0, o1, o2, o3, o4, o5, o6, o7, o8, o9, o10, o11] S o4 v4 A3)
    (i0 : I_ w.drew)
    (hIS : (∀ w', I_  w' → S w') ∧ (∀ (u5 : Value) w', I5_ u5 w' → S w') ∧ (∀ (u5 u6 : Value) w', I5_6_ u5 u6 w' → S w'))
    (s_5 : ∀ w', I_  w' → ∀ K : Act → World → Prop, (∀ (u5 : Value) w2, I5_ u5 w2 → K (A4.put o5.dst u5) w2) → o5.wp P A4 w' K (NoPanic Q))
    (s5_6 : ∀ (u5 : Value) w', I5_ u5 w' → ∀ K : Act → World → Prop, (∀ (u6 : Value) w2, I5_6_ u5 u6 w2 → K ((A4.put o5.dst u5).put o6.dst u6) w2) → o6.wp P (A4.put o5.dst u5) w' K (NoPanic Q))
    (y5_6_7 : ∀ (u5 u6 : Value) w', I5_6_ u5 u6 w' → YieldsIf P #[o0, o1, o2, o3, o4, o5, o6, o7, o8, o9, o10, o11] S o7 (v7 u6) ((A4.put o5.dst u5).put o6.dst u6))
    (y5_6_8 : ∀ (u5 u6 : Value) w', I5_6_ u5 u6 w' → YieldsIf P #[o0, o1, o2, o3, o4, o5, o6, o7, o8, o9, o10, o11] S o8 (v8 u6) (((A4.put o5.dst u5).put o6.dst u6).put o7.dst (v7 u6)))
    (y5_6_9 : ∀ (u5 u6 : Value) w', I5_6_ u5 u6 w' → YieldsIf P #[o0, o1, o2, o3, o4, o5, o6, o7, o8, o9, o10, o11] S o9 (v9 u6) ((((A4.put o5.dst u5).put o6.dst u6).put o7.dst (v7 u6)).put o8.dst (v8 u6)))
    (y5_6_10 : ∀ (u5 u6 : Value) w', I5_6_ u5 u6 w' → YieldsIf P #[o0, o1, o2, o3, o4, o5, o6, o7, o8, o9, o10, o11] S o10 (v10 u6) (((((A4.put o5.dst u5).put o6.dst u6).put o7.dst (v7 u6)).put o8.dst (v8 u6)).put o9.dst (v9 u6)))
    (y5_6_11 : ∀ (u5 u6 : Value) w', I5_6_ u5 u6 w' → YieldsIf P #[o0, o1, o2, o3, o4, o5, o6, o7, o8, o9, o10, o11] S o11 (v11 u6) ((((((A4.put o5.dst u5).put o6.dst u6).put o7.dst (v7 u6)).put o8.dst (v8 u6)).put o9.dst (v9 u6)).put o10.dst (v10 u6)))
    (h : ∀ (u5 u6 : Value) w', I5_6_ u5 u6 w' → Q .normal (((((((A4.put o5.dst u5).put o6.dst u6).put o7.dst (v7 u6)).put o8.dst (v8 u6)).put o9.dst (v9 u6)).put o10.dst (v10 u6)).put o11.dst (v11 u6)) w') :
    (Code.region id #[o0, o1, o2, o3, o4, o5, o6, o7, o8, o9, o10, o11] true).wp P Q a w := by
  subst p0 p1 p2 p3 p4
  obtain ⟨z_, z5_, z5_6_⟩ := hIS
  refine wp_region_noPanic ?_
  refine wp_region_held_drew (S := S) hm (z_ _ i0) (fun hH => ?_)
  show wpAnyH P .any #[o0, o1, o2, o3, o4, o5, o6, o7, o8, o9, o10, o11] (NoPanic Q) S 12 #[false, false, false, false, false, false, false, false, false, false, false, false] a w.drew
  refine wpAnyH_take (i := 0) (oi := o0) rfl hs f0 r0 (fun _ _ _ h => h) hy0 hH ?_
  refine wpAnyH_take (i := 1) (oi := o1) rfl hs f1 r1 (fun _ _ _ h => h) hy1 hH ?_
  refine wpAnyH_take (i := 2) (oi := o2) rfl hs f2 r2 (fun _ _ _ h => h) hy2 hH ?_
  refine wpAnyH_take (i := 3) (oi := o3) rfl hs f3 r3 (fun _ _ _ h => h) hy3 hH ?_
  refine wpAnyH_take (i := 4) (oi := o4) rfl hs f4 r4 (fun _ _ _ h => h) hy4 hH ?_
  generalize (((((a.put o0.dst v0).put o1.dst v1).put o2.dst v2).put o3.dst v3).put o4.dst v4) = B at *
  have wa5 : ∀ y, Region.wanted o5 y = true := fun y => by unfold Region.wanted; rw [g5]
  have wa6 : ∀ y, Region.wanted o6 y = true := fun y => by unfold Region.wanted; rw [g6]
  have t5_6_ : ∀ (u5 u6 : Value) w', I5_6_ u5 u6 w' → wpAnyH P .any #[o0, o1, o2, o3, o4, o5, o6, o7, o8, o9, o10, o11] (NoPanic Q) S 0 #[true, true, true, true, true, true, true, true, true, true, true, true] (((((((B.put o5.dst u5).put o6.dst u6).put o7.dst (v7 u6)).put o8.dst (v8 u6)).put o9.dst (v9 u6)).put o10.dst (v10 u6)).put o11.dst (v11 u6)) w' := by
    intro u5 u6 w0 i0
    exact ⟨q5_6_, NoPanic.normal (h u5 u6 w0 i0)⟩
  have t5_ : ∀ (u5 : Value) w', I5_ u5 w' → wpAnyH P .any #[o0, o1, o2, o3, o4, o5, o6, o7, o8, o9, o10, o11] (NoPanic Q) S 6 #[true, true, true, true, true, true, false, false, false, false, false, false] (B.put o5.dst u5) w' := by
    intro u5 w0 i0
    refine wpAnyH_ready (rs := [6]) q5_ (by simp) (AllReadyH.cons (o := o6) rfl (fun K hK => ?_) AllReadyH.nil)
    · rw [if_pos (wa6 _)]
      refine s5_6 u5 w0 i0 K (fun u6 w1 i1 => hK.out _ _ (z5_6_ u5 u6 w1 i1) (fun _ => ?_))
      clear hK
      refine wpAnyH_take (i := 7) (oi := o7) rfl hs f5_6_7 r5_6_7 (fun _ _ _ h => h) (y5_6_7 u5 u6 w1 i1) (z5_6_ u5 u6 w1 i1) ?_
      refine wpAnyH_take (i := 8) (oi := o8) rfl hs f5_6_8 r5_6_8 (fun _ _ _ h => h) (y5_6_8 u5 u6 w1 i1) (z5_6_ u5 u6 w1 i1) ?_
      refine wpAnyH_take (i := 9) (oi := o9) rfl hs f5_6_9 r5_6_9 (fun _ _ _ h => h) (y5_6_9 u5 u6 w1 i1) (z5_6_ u5 u6 w1 i1) ?_
      refine wpAnyH_take (i := 10) (oi := o10) rfl hs f5_6_10 r5_6_10 (fun _ _ _ h => h) (y5_6_10 u5 u6 w1 i1) (z5_6_ u5 u6 w1 i1) ?_
      refine wpAnyH_take (i := 11) (oi := o11) rfl hs f5_6_11 r5_6_11 (fun _ _ _ h => h) (y5_6_11 u5 u6 w1 i1) (z5_6_ u5 u6 w1 i1) ?_
      exact t5_6_ u5 u6 w1 i1
  have t_ : ∀ w', I_  w' → wpAnyH P .any #[o0, o1, o2, o3, o4, o5, o6, o7, o8, o9, o10, o11] (NoPanic Q) S 7 #[true, true, true, true, true, false, false, false, false, false, false, false] B w' := by
    intro w0 i0
    refine wpAnyH_ready (rs := [5]) q_ (by simp) (AllReadyH.cons (o := o5) rfl (fun K hK => ?_) AllReadyH.nil)
    · rw [if_pos (wa5 _)]
      refine s_5  w0 i0 K (fun u5 w1 i1 => hK.out _ _ (z5_ u5 w1 i1) (fun _ => ?_))
      clear hK
      exact t5_ u5 w1 i1
  exact t_ w.drew i0

theorem wp_tg18 {id : Nat} {o0 o1 o2 o3 o4 o5 o6 o7 o8 o9 o10 o11 o12 o13 o14 o15 o16 o17 : Oper} {a : Act} {w : World} (hm : P.follows .mixedOrders = true) (hs : Region.noSelect #[o0, o1, o2, o3, o4, o5, o6, o7, o8, o9, o10, o11, o12, o13, o14, o15, o16, o17] = true)
    (f0 : Region.free .any #[o0, o1, o2, o3, o4, o5, o6, o7, o8, o9, o10, o11, o12, o13, o14, o15, o16, o17] #[false, false, false, false, false, false, false, false, false, false, false, false, false, false, false, false, false, false] 0 = true) (r0 : (Region.ready .any #[o0, o1, o2, o3, o4, o5, o6, o7, o8, o9, o10, o11, o12, o13, o14, o15, o16, o17] #[false, false, false, false, false, false, false, false, false, false, false, false, false, false, false, false, false, false]).contains 0 = true)
    (f1 : Region.free .any #[o0, o1, o2, o3, o4, o5, o6, o7, o8, o9, o10, o11, o12, o13, o14, o15, o16, o17] #[true, false, false, false, false, false, false, false, false, false, false, false, false, false, false, false, false, false] 1 = true) (r1 : (Region.ready .any #[o0, o1, o2, o3, o4, o5, o6, o7, o8, o9, o10, o11, o12, o13, o14, o15, o16, o17] #[true, false, false, false, false, false, false, false, false, false, false, false, false, false, false, false, false, false]).contains 1 = true)
    (f2 : Region.free .any #[o0, o1, o2, o3, o4, o5, o6, o7, o8, o9, o10, o11, o12, o13, o14, o15, o16, o17] #[true, true, false, false, false, false, false, false, false, false, false, false, false, false, false, false, false, false] 2 = true) (r2 : (Region.ready .any #[o0, o1, o2, o3, o4, o5, o6, o7, o8, o9, o10, o11, o12, o13, o14, o15, o16, o17] #[true, true, false, false, false, false, false, false, false, false, false, false, false, false, false, false, false, false]).contains 2 = true)
    (f3 : Region.free .any #[o0, o1, o2, o3, o4, o5, o6, o7, o8, o9, o10, o11, o12, o13, o14, o15, o16, o17] #[true, true, true, false, false, false, false, false, false, false, false, false, false, false, false, false, false, false] 3 = true) (r3 : (Region.ready .any #[o0, o1, o2, o3, o4, o5, o6, o7, o8, o9, o10, o11, o12, o13, o14, o15, o16, o17] #[true, true, true, false, false, false, false, false, false, false, false, false, false, false, false, false, false, false]).contains 3 = true)
    (f4 : Region.free .any #[o0, o1, o2, o3, o4, o5, o6, o7, o8, o9, o10, o11, o12, o13, o14, o15, o16, o17] #[true, true, true, true, false, false, false, false, false, false, false, false, false, false, false, false, false, false] 4 = true) (r4 : (Region.ready .any #[o0, o1, o2, o3, o4, o5, o6, o7, o8, o9, o10, o11, o12, o13, o14, o15, o16, o17] #[true, true, true, true, false, false, false, false, false, false, false, false, false, false, false, false, false, false]).contains 4 = true)
    (f5 : Region.free .any #[o0, o1, o2, o3, o4, o5, o6, o7, o8, o9, o10, o11, o12, o13, o14, o15, o16, o17] #[true, true, true, true, true, false, false, false, false, false, false, false, false, false, false, false, false, false] 5 = true) (r5 : (Region.ready .any #[o0, o1, o2, o3, o4, o5, o6, o7, o8, o9, o10, o11, o12, o13, o14, o15, o16, o17] #[true, true, true, true, true, false, false, false, false, false, false, false, false, false, false, false, false, false]).contains 5 = true)
    (f7 : Region.free .any #[o0, o1, o2, o3, o4, o5, o6, o7, o8, o9, o10, o11, o12, o13, o14, o15, o16, o17] #[true, true, true, true, true, true, false, false, false, false, false, false, false, false, false, false, false, false] 7 = true) (r7 : (Region.ready .any #[o0, o1, o2, o3, o4, o5, o6, o7, o8, o9, o10, o11, o12, o13, o14, o15, o16, o17] #[true, true, true, true, true, true, false, false, false, false, false, false, false, false, false, false, false, false]).contains 7 = true)
    (f8 : Region.free .any #[o0, o1, o2, o3, o4, o5, o6, o7, o8, o9, o10, o11, o12, o13, o14, o15, o16, o17] #[true, true, true, true, true, true, false, true, false, false, false, false, false, false, false, false, false, false] 8 = true) (r8 : (Region.ready .any #[o0, o1, o2, o3, o4, o5, o6, o7, o8, o9, o10, o11, o12, o13, o14, o15, o16, o17] #[true, true, true, true, true, true, false, true, false, false, false, false, false, false, false, false, false, false]).contains 8 = true)
    (f9 : Region.free .any #[o0, o1, o2, o3, o4, o5, o6, o7, o8, o9, o10, o11, o12, o13, o14, o15, o16, o17] #[true, true, true, true, true, true, false, true, true, false, false, false, false, false, false, false, false, false] 9 = true) (r9 : (Region.ready .any #[o0, o1, o2, o3, o4, o5, o6, o7, o8, o9, o10, o11, o12, o13, o14, o15, o16, o17] #[true, true, true, true, true, true, false, true, true, false, false, false, false, false, false, false, false, false]).contains 9 = true)
    (q_ : Region.ready .any #[o0, o1, o2, o3, o4, o5, o6, o7, o8, o9, o10, o11, o12, o13, o14, o15, o16, o17] #[true, true, true, true, true, true, false, true, true, true, false, false, false, false, false, false, false, false] = [6])
    (q6_ : Region.ready .any #[o0, o1, o2, o3, o4, o5, o6, o7, o8, o9, o10, o11, o12, o13, o14, o15, o16, o17] #[true, true, true, true, true, true, true, true, true, true, false, false, false, false, false, false, false, false] = [10])
    (f6_10_11 : Region.free .any #[o0, o1, o2, o3, o4, o5, o6, o7, o8, o9, o10, o11, o12, o13, o14, o15, o16, o17] #[true, true, true, true, true, true, true, true, true, true, true, false, false, false, false, false, false, false] 11 = true) (r6_10_11 : (Region.ready .any #[o0, o1, o2, o3, o4, o5, o6, o7, o8, o9, o10, o11, o12, o13, o14, o15, o16, o17] #[true, true, true, true, true, true, true, true, true, true, true, false, false, false, false, false, false, false]).contains 11 = true)
    (q6_10_ : Region.ready .any #[o0, o1, o2, o3, o4, o5, o6, o7, o8, o9, o10, o11, o12, o13, o14, o15, o16, o17] #[true, true, true, true, true, true, true, true, true, true, true, true, false, false, false, false, false, false] = [12])
    (f6_10_12_13 : Region.free .any #[o0, o1, o2, o3, o4, o5, o6, o7, o8, o9, o10, o11, o12, o13, o14, o15, o16, o17] #[true, true, true, true, true, true, true, true, true, true, true, true, true, false, false, false, false, false] 13 = true) (r6_10_12_13 : (Region.ready .any #[o0, o1, o2, o3, o4, o5, o6, o7, o8, o9, o10, o11, o12, o13, o14, o15, o16, o17] #[true, true, true, true, true, true, true, true, true, true, true, true, true, false, false, false, false, false]).contains 13 = true)
    (f6_10_12_14 : Region.free .any #[o0, o1, o2, o3, o4, o5, o6, o7, o8, o9, o10, o11, o12, o13, o14, o15, o16, o17] #[true, true, true, true, true, true, true, true, true, true, true, true, true, true, false, false, false, false] 14 = true) (r6_10_12_14 : (Region.ready .any #[o0, o1, o2, o3, o4, o5, o6, o7, o8, o9, o10, o11, o12, o13, o14, o15, o16, o17] #[true, true, true, true, true, true, true, true, true, true, true, true, true, true, false, false, false, false]).contains 14 = true)
    (f6_10_12_15 : Region.free .any #[o0, o1, o2, o3, o4, o5, o6, o7, o8, o9, o10, o11, o12, o13, o14, o15, o16, o17] #[true, true, true, true, true, true, true, true, true, true, true, true, true, true, true, false, false, false] 15 = true) (r6_10_12_15 : (Region.ready .any #[o0, o1, o2, o3, o4, o5, o6, o7, o8, o9, o10, o11, o12, o13, o14, o15, o16, o17] #[true, true, true, true, true, true, true, true, true, true, true, true, true, true, true, false, false, false]).contains 15 = true)
    (f6_10_12_16 : Region.free .any #[o0, o1, o2, o3, o4, o5, o6, o7, o8, o9, o10, o11, o12, o13, o14, o15, o16, o17] #[true, true, true, true, true, true, true, true, true, true, true, true, true, true, true, true, false, false] 16 = true) (r6_10_12_16 : (Region.ready .any #[o0, o1, o2, o3, o4, o5, o6, o7, o8, o9, o10, o11, o12, o13, o14, o15, o16, o17] #[true, true, true, true, true, true, true, true, true, true, true, true, true, true, true, true, false, false]).contains 16 = true)
    (f6_10_12_17 : Region.free .any #[o0, o1, o2, o3, o4, o5, o6, o7, o8, o9, o10, o11, o12, o13, o14, o15, o16, o17] #[true, true, true, true, true, true, true, true, true, true, true, true, true, true, true, true, true, false] 17 = true) (r6_10_12_17 : (Region.ready .any #[o0, o1, o2, o3, o4, o5, o6, o7, o8, o9, o10, o11, o12, o13, o14, o15, o16, o17] #[true, true, true, true, true, true, true, true, true, true, true, true, true, true, true, true, true, false]).contains 17 = true)
    (q6_10_12_ : Region.ready .any #[o0, o1, o2, o3, o4, o5, o6, o7, o8, o9, o10, o11, o12, o13, o14, o15, o16, o17] #[true, true, true, true, true, true, true, true, true, true, true, true, true, true, true, true, true, true] = [])
    (g6 : o6.guard = none)    (g10 : o10.guard = none)    (g12 : o12.guard = none)
    (v0 v1 v2 v3 v4 v5 v7 v8 v9 : Value) (A0 A1 A2 A3 A4 A5 A6 A7 A8 : Act)
    (S : World → Prop)
    (I_ : World → Prop)
    (I6_ : Value → World → Prop)
    (I6_10_ : Value → Value → World → Prop)
    (I6_10_12_ : Value → Value → Value → World → Prop)
    (v11 : Value → Value → Value)
    (v13 : Value → Value)
    (v14 : Value → Value)
    (v15 : Value → Value)
    (v16 : Value → Value)
    (v17 : Value → Value)
    (p0 : a.put o0.dst v0 = A0) (hy0 : YieldsIf P #[o0, o1, o2, o3, o4, o5, o6, o7, o8, o9, o10, o11, o12, o13, o14, o15, o16, o17] S o0 v0 a)
    (p1 : A0.put o1.dst v1 = A1) (hy1 : YieldsIf P #[o0, o1, o2, o3, o4, o5, o6, o7, o8, o9, o10, o11, o12, o13, o14, o15, o16, o17] S o1 v1 A0)
    (p2 : A1.put o2.dst v2 = A2) (hy2 : YieldsIf P #[o0, o1, o2, o3, o4, o5, o6, o7, o8, o9, o10, o11, o12, o13, o14, o15, o16, o17] S o2 v2 A1)
    (p3 : A2.put o3.dst v3 = A3) (hy3 : YieldsIf P #[o0, o1, o2, o3, o4, o5, o6, o7, o8, o9, o10, o11, o12, o13, o14, o15, o16, o17] S o3 v3 A2)
    (p4 : A3.put o4.dst v4 = A4) (hy4 : YieldsIf P #[o0, o1, o2, o3, o4, o5, o6, o7, o8, o9, o10, o11, o12, o13, o14, o15, o16, o17] S o4 v4 A3)
    (p5 : A4.put o5.dst v5 = A5) (hy5 : YieldsIf P #[o0, o1, o2, o3, o4, o5, o6, o7, o8, o9, o10, o11, o12, o13, o14, o15, o16, o17] S o5 v5 A4)
    (p7 : A5.put o7.dst v7 = A6) (hy7 : YieldsIf P #[o0, o1, o2, o3, o4, o5, o6, o7, o8, o9, o10, o11, o12, o13, o14, o15, o16, o17] S o7 v7 A5)
    (p8 : A6.put o8.dst v8 = A7) (hy8 : YieldsIf P #[o0, o1, o2, o3, o4, o5, o6, o7, o8, o9, o10, o11, o12, o13, o14, o15, o16, o17] S o8 v8 A6)
    (p9 : A7.put o9.dst v9 = A8) (hy9 : YieldsIf P #[o0, o1, o2, o3, o4, o5, o6, o7, o8, o9, o10, o11, o12, o13, o14, o15, o16, o17] S o9 v9 A7)
    (i0 : I_ w.drew)
    (hIS : (∀ w', I_  w' → S w') ∧ (∀ (u6 : Value) w', I6_ u6 w' → S w') ∧ (∀ (u6 u10 : Value) w', I6_10_ u6 u10 w' → S w') ∧ (∀ (u6 u10 u12 : Value) w', I6_10_12_ u6 u10 u12 w' → S w'))
    (s_6 : ∀ w', I_  w' → ∀ K : Act → World → Prop, (∀ (u6 : Value) w2, I6_ u6 w2 → K (A8.put o6.dst u6) w2) → o6.wp P A8 w' K (NoPanic Q))
    (s6_10 : ∀ (u6 : Value) w', I6_ u6 w' → ∀ K : Act → World → Prop, (∀ (u10 : Value) w2, I6_10_ u6 u10 w2 → K ((A8.put o6.dst u6).put o10.dst u10) w2) → o10.wp P (A8.put o6.dst u6) w' K (NoPanic Q))
    (s6_10_12 : ∀ (u6 u10 : Value) w', I6_10_ u6 u10 w' → ∀ K : Act → World → Prop, (∀ (u12 : Value) w2, I6_10_12_ u6 u10 u12 w2 → K ((((A8.put o6.dst u6).put o10.dst u10).put o11.dst (v11 u6 u10)).put o12.dst u12) w2) → o12.wp P (((A8.put o6.dst u6).put o10.dst u10).put o11.dst (v11 u6 u10)) w' K (NoPanic Q))
    (y6_10_11 : ∀ (u6 u10 : Value) w', I6_10_ u6 u10 w' → YieldsIf P #[o0, o1, o2, o3, o4, o5, o6, o7, o8, o9, o10, o11, o12, o13, o14, o15, o16, o17] S o11 (v11 u6 u10) ((A8.put o6.dst u6).put o10.dst u10))
    (y6_10_12_13 : ∀ (u6 u10 u12 : Value) w', I6_10_12_ u6 u10 u12 w' → YieldsIf P #[o0, o1, o2, o3, o4, o5, o6, o7, o8, o9, o10, o11, o12, o13, o14, o15, o16, o17] S o13 (v13 u12) ((((A8.put o6.dst u6).put o10.dst u10).put o11.dst (v11 u6 u10)).put o12.dst u12))
    (y6_10_12_14 : ∀ (u6 u10 u12 : Value) w', I6_10_12_ u6 u10 u12 w' → YieldsIf P #[o0, o1, o2, o3, o4, o5, o6, o7, o8, o9, o10, o11, o12, o13, o14, o15, o16, o17] S o14 (v14 u12) (((((A8.put o6.dst u6).put o10.dst u10).put o11.dst (v11 u6 u10)).put o12.dst u12).put o13.dst (v13 u12)))
    (y6_10_12_15 : ∀ (u6 u10 u12 : Value) w', I6_10_12_ u6 u10 u12 w' → YieldsIf P #[o0, o1, o2, o3, o4, o5, o6, o7, o8, o9, o10, o11, o12, o13, o14, o15, o16, o17] S o15 (v15 u12) ((((((A8.put o6.dst u6).put o10.dst u10).put o11.dst (v11 u6 u10)).put o12.dst u12).put o13.dst (v13 u12)).put o14.dst (v14 u12)))
    (y6_10_12_16 : ∀ (u6 u10 u12 : Value) w', I6_10_12_ u6 u10 u12 w' → YieldsIf P #[o0, o1, o2, o3, o4, o5, o6, o7, o8, o9, o10, o11, o12, o13, o14, o15, o16, o17] S o16 (v16 u12) (((((((A8.put o6.dst u6).put o10.dst u10).put o11.dst (v11 u6 u10)).put o12.dst u12).put o13.dst (v13 u12)).put o14.dst (v14 u12)).put o15.dst (v15 u12)))
    (y6_10_12_17 : ∀ (u6 u10 u12 : Value) w', I6_10_12_ u6 u10 u12 w' → YieldsIf P #[o0, o1, o2, o3, o4, o5, o6, o7, o8, o9, o10, o11, o12, o13, o14, o15, o16, o17] S o17 (v17 u12) ((((((((A8.put o6.dst u6).put o10.dst u10).put o11.dst (v11 u6 u10)).put o12.dst u12).put o13.dst (v13 u12)).put o14.dst (v14 u12)).put o15.dst (v15 u12)).put o16.dst (v16 u12)))
    (h : ∀ (u6 u10 u12 : Value) w', I6_10_12_ u6 u10 u12 w' → Q .normal (((((((((A8.put o6.dst u6).put o10.dst u10).put o11.dst (v11 u6 u10)).put o12.dst u12).put o13.dst (v13 u12)).put o14.dst (v14 u12)).put o15.dst (v15 u12)).put o16.dst (v16 u12)).put o17.dst (v17 u12)) w') :
    (Code.region id #[o0, o1, o2, o3, o4, o5, o6, o7, o8, o9, o10, o11, o12, o13, o14, o15, o16, o17] true).wp P Q a w := by
  subst p0 p1 p2 p3 p4 p5 p7 p8 p9
  obtain ⟨z_, z6_, z6_10_, z6_10_12_⟩ := hIS
  refine wp_region_noPanic ?_
  refine wp_region_held_drew (S := S) hm (z_ _ i0) (fun hH => ?_)
  show wpAnyH P .any #[o0, o1, o2, o3, o4, o5, o6, o7, o8, o9, o10, o11, o12, o13, o14, o15, o16, o17] (NoPanic Q) S 18 #[false, false, false, false, false, false, false, false, false, false, false, false, false, false, false, false, false, false] a w.drew
  refine wpAnyH_take (i := 0) (oi := o0) rfl hs f0 r0 (fun _ _ _ h => h) hy0 hH ?_
  refine wpAnyH_take (i := 1) (oi := o1) rfl hs f1 r1 (fun _ _ _ h => h) hy1 hH ?_
  refine wpAnyH_take (i := 2) (oi := o2) rfl hs f2 r2 (fun _ _ _ h => h) hy2 hH ?_
  refine wpAnyH_take (i := 3) (oi := o3) rfl hs f3 r3 (fun _ _ _ h => h) hy3 hH ?_
  refine wpAnyH_take (i := 4) (oi := o4) rfl hs f4 r4 (fun _ _ _ h => h) hy4 hH ?_
  refine wpAnyH_take (i := 5) (oi := o5) rfl hs f5 r5 (fun _ _ _ h => h) hy5 hH ?_
  refine wpAnyH_take (i := 7) (oi := o7) rfl hs f7 r7 (fun _ _ _ h => h) hy7 hH ?_
  refine wpAnyH_take (i := 8) (oi := o8) rfl hs f8 r8 (fun _ _ _ h => h) hy8 hH ?_
  refine wpAnyH_take (i := 9) (oi := o9) rfl hs f9 r9 (fun _ _ _ h => h) hy9 hH ?_
  generalize (((((((((a.put o0.dst v0).put o1.dst v1).put o2.dst v2).put o3.dst v3).put o4.dst v4).put o5.dst v5).put o7.dst v7).put o8.dst v8).put o9.dst v9) = B at *
  have wa6 : ∀ y, Region.wanted o6 y = true := fun y => by unfold Region.wanted; rw [g6]
  have wa10 : ∀ y, Region.wanted o10 y = true := fun y => by unfold Region.wanted; rw [g10]
  have wa12 : ∀ y, Region.wanted o12 y = true := fun y => by unfold Region.wanted; rw [g12]
  have t6_10_12_ : ∀ (u6 u10 u12 : Value) w', I6_10_12_ u6 u10 u12 w' → wpAnyH P .any #[o0, o1, o2, o3, o4, o5, o6, o7, o8, o9, o10, o11, o12, o13, o14, o15, o16, o17] (NoPanic Q) S 0 #[true, true, true, true, true, true, true, true, true, true, true, true, true, true, true, true, true, true] (((((((((B.put o6.dst u6).put o10.dst u10).put o11.dst (v11 u6 u10)).put o12.dst u12).put o13.dst (v13 u12)).put o14.dst (v14 u12)).put o15.dst (v15 u12)).put o16.dst (v16 u12)).put o17.dst (v17 u12)) w' := by
    intro u6 u10 u12 w0 i0
    exact ⟨q6_10_12_, NoPanic.normal (h u6 u10 u12 w0 i0)⟩
  have t6_10_ : ∀ (u6 u10 : Value) w', I6_10_ u6 u10 w' → wpAnyH P .any #[o0, o1, o2, o3, o4, o5, o6, o7, o8, o9, o10, o11, o12, o13, o14, o15, o16, o17] (NoPanic Q) S 6 #[true, true, true, true, true, true, true, true, true, true, true, true, false, false, false, false, false, false] (((B.put o6.dst u6).put o10.dst u10).put o11.dst (v11 u6 u10)) w' := by
    intro u6 u10 w0 i0
    refine wpAnyH_ready (rs := [12]) q6_10_ (by simp) (AllReadyH.cons (o := o12) rfl (fun K hK => ?_) AllReadyH.nil)
    · rw [if_pos (wa12 _)]
      refine s6_10_12 u6 u10 w0 i0 K (fun u12 w1 i1 => hK.out _ _ (z6_10_12_ u6 u10 u12 w1 i1) (fun _ => ?_))
      clear hK
      refine wpAnyH_take (i := 13) (oi := o13) rfl hs f6_10_12_13 r6_10_12_13 (fun _ _ _ h => h) (y6_10_12_13 u6 u10 u12 w1 i1) (z6_10_12_ u6 u10 u12 w1 i1) ?_
      refine wpAnyH_take (i := 14) (oi := o14) rfl hs f6_10_12_14 r6_10_12_14 (fun _ _ _ h => h) (y6_10_12_14 u6 u10 u12 w1 i1) (z6_10_12_ u6 u10 u12 w1 i1) ?_
      refine wpAnyH_take (i := 15) (oi := o15) rfl hs f6_10_12_15 r6_10_12_15 (fun _ _ _ h => h) (y6_10_12_15 u6 u10 u12 w1 i1) (z6_10_12_ u6 u10 u12 w1 i1) ?_
      refine wpAnyH_take (i := 16) (oi := o16) rfl hs f6_10_12_16 r6_10_12_16 (fun _ _ _ h => h) (y6_10_12_16 u6 u10 u12 w1 i1) (z6_10_12_ u6 u10 u12 w1 i1) ?_
      refine wpAnyH_take (i := 17) (oi := o17) rfl hs f6_10_12_17 r6_10_12_17 (fun _ _ _ h => h) (y6_10_12_17 u6 u10 u12 w1 i1) (z6_10_12_ u6 u10 u12 w1 i1) ?_
      exact t6_10_12_ u6 u10 u12 w1 i1
  have t6_ : ∀ (u6 : Value) w', I6_ u6 w' → wpAnyH P .any #[o0, o1, o2, o3, o4, o5, o6, o7, o8, o9, o10, o11, o12, o13, o14, o15, o16, o17] (NoPanic Q) S 8 #[true, true, true, true, true, true, true, true, true, true, false, false, false, false, false, false, false, false] (B.put o6.dst u6) w' := by
    intro u6 w0 i0
    refine wpAnyH_ready (rs := [10]) q6_ (by simp) (AllReadyH.cons (o := o10) rfl (fun K hK => ?_) AllReadyH.nil)
    · rw [if_pos (wa10 _)]
      refine s6_10 u6 w0 i0 K (fun u10 w1 i1 => hK.out _ _ (z6_10_ u6 u10 w1 i1) (fun _ => ?_))
      clear hK
      refine wpAnyH_take (i := 11) (oi := o11) rfl hs f6_10_11 r6_10_11 (fun _ _ _ h => h) (y6_10_11 u6 u10 w1 i1) (z6_10_ u6 u10 w1 i1) ?_
      exact t6_10_ u6 u10 w1 i1
  have t_ : ∀ w', I_  w' → wpAnyH P .any #[o0, o1, o2, o3, o4, o5, o6, o7, o8, o9, o10, o11, o12, o13, o14, o15, o16, o17] (NoPanic Q) S 9 #[true, true, true, true, true, true, false, true, true, true, false, false, false, false, false, false, false, false] B w' := by
    intro w0 i0
    refine wpAnyH_ready (rs := [6]) q_ (by simp) (AllReadyH.cons (o := o6) rfl (fun K hK => ?_) AllReadyH.nil)
    · rw [if_pos (wa6 _)]
      refine s_6  w0 i0 K (fun u6 w1 i1 => hK.out _ _ (z6_ u6 w1 i1) (fun _ => ?_))
      clear hK
      exact t6_ u6 w1 i1
  exact t_ w.drew i0

end
end Go.Proofs.YtbbjbpjpejekgaaDoor
