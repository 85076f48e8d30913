import Derived.Test.YtbbjbpjpejekgaaDoorRowz
import Derived.Deep.RegionHeld3
import Derived.Test.YtbbjbpjpejekgaaDoorTopB
import Derived.Laws.StructEq
import Derived.Test.YtbbjbpjpejekgaaDoorTopC
import Derived.Test.YtbbjbpjpejekgaaDoorSame
import Derived.Test.YtbbjbpjpejekgaaDoorJoin
/-
  One operation: a call, by its contract.
-/
namespace Go.Proofs.YtbbjbpjpejekgaaDoor
open Go Go.RowKit Go.BigFrame
set_option linter.unusedVariables false
set_option linter.unusedSimpArgs false

theorem wp_callN {o : Oper} {a : Act} {w : World} {K : Act → World → Prop} {Q : Exit → Act → World → Prop} {f : FuncId} {xs : Array Operand} {ts : Array TypeId} (ho : o.op = .call { callee := .value (.func f), args := xs, argTypes := ts })
    (hcl : ∀ args W, (callFunc f args).run Tryd.prog W = .ok (.enter f args) W) (us : List Value) (he : xs.toList.map a.eval = us) {R : Ending → World → Prop}
    (hc : Calls Tryd.prog f us.toArray w R) (h : ∀ e w', R e w' → ∃ v, e = .returned v ∧ K (a.put o.dst v) w') : o.wp Tryd.prog a w K Q := by
  have he2 : xs.map a.eval = us.toArray := by rw [← he]; cases xs; simp only [List.map_toArray]
  unfold Oper.wp execOp
  simp only [ho]
  have hf : a.eval (.func f) = .func (.func f) #[] #[] := rfl
  simp only [resolve, invoke, hf, he2, Sem.run_bind, Sem.run_pure, Result.andThen_ok, hcl]
  simp [Deferred.ofValue, hcl, go_sem]
  refine hc.mono ?_
  intro e w2 h2
  obtain ⟨v, rfl, h3⟩ := h e w2 h2
  exact h3
end Go.Proofs.YtbbjbpjpejekgaaDoor
namespace Go.Proofs.YtbbjbpjpejekgaaDoor
open Go.RowKit Go.BigFrame
set_option linter.unusedVariables false
set_option linter.unusedSimpArgs false

theorem wpList_load_midG {P : Program} {ops : Array Oper} {rest : List Oper} {op : Oper} {a : Act} {w : World} {Q : Exit → Act → World → Prop} (hw : Region.wanted op (yielded ops a.tmps) = true) (ty : TypeId) (x : Operand) (ho : op.op = .load ty x)
    (b o : Nat) (hx : a.eval x = .pointer (some ⟨b, o, none⟩)) (cs : List Value) (d : TypeDesc) (hc : w.rangeAt b o cs)
    (hu : P.underlying ty = some d) (hd : d.isRow = true) (hi : (P.info? ty).map (·.size) = some cs.length)
    (h : wpList P ops Q rest (a.put op.dst (.agg cs.toArray)) w) : wpList P ops Q (op :: rest) a w :=
  wpList_want hw fun _ hK => wp_load_mid ty x ho b o hx cs d hc hu hd hi (hK _ _ h)
theorem dig_eqd (d : Nat) (w : World) (a b : List Nat) (ha : a.length = 32) (hb : b.length = 32) : (Op.equalIn (d + 2) 26 (.agg (brow a)) (.agg (brow b))).run Tryd.prog w = .ok (decide (a = b)) w := by
  obtain ⟨i, hi, _⟩ := Option.map_eq_some_iff.1 Tryd.info5
  rw [run_equalIn_array w (d + 1) _ _ Tryd.underlying26 hi, List.range_eq_range', show Tryd.prog.cellsOf 5 = 1 from by kernel_rfl]
  exact eqItems_dig Tryd.prog w (by unfold Program.plainKey; rw [Tryd.underlying5]) Tryd.underlying5 d a b 32 ha hb 32 0 rfl

theorem Tryd.infoDig : (Tryd.prog.info? 26).map (·.size) = some 32 := by kernel_rfl
theorem part_dig (w : World) (xs : Array Value) (off : Nat) : (part 26 xs off).run Tryd.prog w = .ok (.agg (xs.extract off (off + 32))) w := by
  obtain ⟨i, hi, hs⟩ := Option.map_eq_some_iff.1 Tryd.infoDig
  have hc : Tryd.prog.cellsOf 26 = 32 := by kernel_rfl
  simp [part, isAgg, run_underlying Tryd.underlying26, run_sizeOf w hi, hs]
theorem root_parts (s : Nat) (l m : List Nat) (hl : l.length = 32) (hm : m.length = 32) : (rootC s l m).toArray[0]? = some (.int .u64 (s : Int)) ∧ (rootC s l m).toArray.extract 1 (1 + 32) = brow l ∧ (rootC s l m).toArray.extract 33 (33 + 32) = brow m := by
  refine ⟨rfl, ?_, ?_⟩
  · unfold rootC brow
    apply Array.toList_inj.1
    rw [Array.toList_extract]
    simp [List.extract, hl]
  · unfold rootC brow
    apply Array.toList_inj.1
    rw [Array.toList_extract]
    simp [List.extract, hl]
    rw [List.take_of_length_le (by simp [hm])]
theorem Tryd.rootFields : (Tryd.prog.fieldsOf 32).toList.map (fun f => (f.name, f.type, f.offset)) = [("Size", 30, 0), ("Log", 26, 1), ("Map", 26, 33)] := by kernel_rfl
theorem eqFields_three (d : Nat) (xs ys : Array Value) (fs : List Field) (n1 n2 n3 : String) (t1 t2 t3 : TypeId) (o1 o2 o3 : Nat) (h : fs.map (fun f => (f.name, f.type, f.offset)) = [(n1, t1, o1), (n2, t2, o2), (n3, t3, o3)]) : ∃ f1 f2 f3, fs = [f1, f2, f3] ∧ (f1.name = n1 ∧ f1.type = t1 ∧ f1.offset = o1) ∧ (f2.name = n2 ∧ f2.type = t2 ∧ f2.offset = o2) ∧ (f3.name = n3 ∧ f3.type = t3 ∧ f3.offset = o3) := by
  match fs, h with
  | [f1, f2, f3], h =>
    simp at h
    exact ⟨f1, f2, f3, rfl, h.1, h.2.1, h.2.2⟩
theorem root_eq (w : World) (s s' : Nat) (l m l' m' : List Nat) (hl : l.length = 32) (hm : m.length = 32) (hl' : l'.length = 32) (hm' : m'.length = 32) :
    (Op.equalIn 10000 32 (.agg (rootC s l m).toArray) (.agg (rootC s' l' m').toArray)).run Tryd.prog w = .ok (decide (s = s' ∧ l = l' ∧ m = m')) w := by
  obtain ⟨p0, p1, p2⟩ := root_parts s l m hl hm
  obtain ⟨q0, q1, q2⟩ := root_parts s' l' m' hl' hm'
  rw [run_equalIn_struct w 9999 32 _ _ (by kernel_rfl) (by kernel_rfl)]
  obtain ⟨f1, f2, f3, hf, ⟨a1, a2, a3⟩, ⟨b1, b2, b3⟩, ⟨c1, c2, c3⟩⟩ := eqFields_three 9999 #[] #[] _ _ _ _ _ _ _ _ _ _ Tryd.rootFields
  rw [hf]
  simp only [Op.eqFields, a1, a2, a3, b1, b2, b3, c1, c2, c3]
  rw [if_pos (by decide), if_pos (by decide), if_pos (by decide)]
  have hpl : Tryd.prog.plainKey 30 = true := by kernel_rfl
  simp only [Sem.run_bind, run_part_plain w hpl p0, run_part_plain w hpl q0, Result.andThen_ok, part_dig, p1, p2, q1, q2]
  rw [run_equalIn_int w 9998 30 _ _ _ _ Tryd.underlying30, Result.andThen_ok]
  by_cases hs : s = s'
  · have e1 : ((s : Int) == (s' : Int)) = true := by rw [hs]; simp
    rw [e1]
    simp only [Bool.not_true, Bool.false_eq_true, if_false, Sem.run_bind, part_dig, p1, p2, q1, q2, Result.andThen_ok]
    rw [dig_eqd 9997 w l l' hl hl', Result.andThen_ok]
    by_cases h2 : l = l'
    · rw [decide_eq_true h2]
      simp only [Bool.not_true, Bool.false_eq_true, if_false, Sem.run_bind, part_dig, p1, p2, q1, q2, Result.andThen_ok]
      rw [dig_eqd 9997 w m m' hm hm', Result.andThen_ok]
      by_cases h3 : m = m'
      · rw [decide_eq_true h3]; simp [hs, h2, h3]
      · rw [decide_eq_false h3]; simp [hs, h2, h3]
    · rw [decide_eq_false h2]; simp [hs, h2]
  · have e1 : ((s : Int) == (s' : Int)) = false := by rw [beq_eq_false_iff_ne]; omega
    rw [e1]; simp [hs]

theorem take_same {α : Type} (a b : List α) (i : Nat) (ha : i < a.length) (hb : i < b.length) (h : a.take i = b.take i) (x : a[i] = b[i]) : a.take (i + 1) = b.take (i + 1) := by
  rw [List.take_succ_eq_append_getElem ha, List.take_succ_eq_append_getElem hb, h, x]

end Go.Proofs.YtbbjbpjpejekgaaDoor
namespace Go.Proofs.YtbbjbpjpejekgaaDoor
open Go.RowKit Go.BigFrame
set_option linter.unusedVariables false
set_option linter.unusedSimpArgs false

theorem run_loadM {P : Program} {o : Oper} {a : Act} (ty : TypeId) (x : Operand) (ho : o.op = .load ty x) (b off : Nat) (hx : a.eval x = .pointer (some ⟨b, off, none⟩)) (w : World) (cs : List Value) (d : TypeDesc) (hc : w.rangeAt b off cs) (hu : P.underlying ty = some d) (hd : d.isRow = true) (hi : (P.info? ty).map (·.size) = some cs.length) :
    (execOp a.eval o).run P w = .ok (.value (.agg cs.toArray)) w := by
  have := run_loadVar_mid (P := P) w b off ty cs d hc hu hd hi
  unfold execOp
  simp only [ho, hx, Instr.loadAt, Instr.sureAddr, Sem.run_bind, Sem.run_pure, Result.andThen_ok, this]
theorem range_all {w : World} {g : Nat} {cs : List Value} {t : TypeId} {fr : Nat × Nat} (h : w.heap[g]? = some (.cells cs.toArray t fr)) : w.rangeAt g 0 cs := by
  intro j v hv
  rw [cell_of_row w g _ _ t fr h, Nat.zero_add, List.getElem?_toArray, hv]
theorem rootC_one (s : Nat) (l m : List Nat) : (rootC s l m).toArray.all (·.oneCell') = true := by
  rw [List.all_toArray, List.all_eq_true]
  intro v hv
  simp only [rootC, List.mem_cons, List.mem_append] at hv
  rcases hv with rfl | hv | hv
  · rfl
  · exact u8_oneCell l v hv
  · exact u8_oneCell m v hv
theorem root_cells {w : World} {g s : Nat} {l m : List Nat} {t : TypeId} {fr : Nat × Nat} (h : w.heap[g]? = some (.cells (rootC s l m).toArray t fr)) (hl : l.length = 32) : w.cell? ⟨g, 0, none⟩ = some (.int .u64 (s : Int)) ∧ w.rangeAt g 1 (l.map u8) ∧ w.rangeAt g 33 (m.map u8) := by
  refine ⟨?_, ?_, ?_⟩
  · rw [cell_of_row w g _ _ t fr h]; rfl
  · exact row_mid (n := 1) [.int .u64 (s : Int)] (l.map u8) (m.map u8) (by simpa [rootC] using h) rfl
  · exact row_mid (n := 33) (.int .u64 (s : Int) :: l.map u8) (m.map u8) [] (by simpa [rootC] using h) (by simp [hl])
def tpA : Value → Nat → Value
  | .tuple xs, i => xs.toList.getD i undef
  | _, _ => undef
theorem foldl_set (vs : List Value) : ∀ (pre mid post : List Value) (k : Nat), mid.length = vs.length → ((vs.zipIdx k).foldl (fun cs (p : Value × Nat) => cs.setIfInBounds (pre.length + p.2 - k) p.1) (pre ++ (mid ++ post)).toArray) = (pre ++ (vs ++ post)).toArray := by
  induction vs with
  | nil => intro pre mid post k h; have : mid = [] := List.eq_nil_of_length_eq_zero (by simpa using h); subst this; rfl
  | cons v r ih =>
    intro pre mid post k h
    obtain ⟨x, mid, rfl⟩ : ∃ x q, mid = x :: q := by cases mid with | nil => simp at h | cons x q => exact ⟨x, q, rfl⟩
    rw [List.zipIdx_cons, List.foldl_cons]
    have e1 : (pre ++ (x :: mid ++ post)).toArray.setIfInBounds (pre.length + k - k) v = ((pre ++ [v]) ++ (mid ++ post)).toArray := by rw [Nat.add_sub_cancel]; simp
    have h2 := ih (pre ++ [v]) mid post (k + 1) (by simpa using h)
    simp only [e1]
    rw [List.length_append, List.length_cons, List.length_nil] at h2
    have e2 : (fun (cs : Array Value) (p : Value × Nat) => cs.setIfInBounds (pre.length + p.2 - k) p.1) = fun cs p => cs.setIfInBounds (pre.length + (0 + 1) + p.2 - (k + 1)) p.1 := by funext cs p; congr 1; omega
    rw [e2, h2]; simp
set_option maxRecDepth 100000 in
theorem built_root (s : Nat) (l m : List Nat) (hl : l.length = 32) (hm : m.length = 32) (w : World) :
    (Instr.build 32 #[(0, .int .u64 (s : Int)), (1, .agg (l.map u8).toArray), (2, .agg (m.map u8).toArray)]).run Tryd.prog w = .ok (.agg (rootC s l m).toArray) w := by
  refine run_build w _ _ _ ?_
  have hi : (Tryd.prog.info? 32).isSome = true := by kernel_rfl
  obtain ⟨it, hit⟩ := Option.isSome_iff_exists.1 hi
  have hz : (Tryd.prog.info? 32).bind (·.zero) = some (.agg (rootC 0 zD zD).toArray) := by kernel_rfl
  rw [hit, Option.bind_some] at hz
  have hpl : ∀ fs, Tryd.prog.underlying 32 = some (.struct fs) → fs.toList.mapM (fun f => (Tryd.prog.info? f.type).map fun i => (f.offset, i.size)) = some [(0, 1), (1, 32), (33, 32)] := by
    intro fs hfs
    rw [Tryd.underlying32] at hfs
    injection hfs with hfs
    injection hfs with hfs
    subst hfs
    kernel_rfl
  have hex : ∃ fs, Tryd.prog.underlying 32 = some (.struct fs) := ⟨_, Tryd.underlying32⟩
  obtain ⟨fs, hfs⟩ := hex
  have hpl := hpl fs hfs
  unfold Program.built
  rw [hit, hfs]
  simp only [hz, hpl]
  have z1 : zD.length = 32 := (by simp [zD])
  have f1 := foldl_set [Value.int .u64 (s : Int)] [] [.int .u64 0] (zD.map u8 ++ zD.map u8) 0 rfl
  have f2 := foldl_set (l.map u8) [.int .u64 (s : Int)] (zD.map u8) (zD.map u8) 0 (by simp [hl, z1])
  have f3 := foldl_set (m.map u8) (.int .u64 (s : Int) :: l.map u8) (zD.map u8) [] 0 (by simp [hm, z1])
  simp [Instr.fill, Value.cells, rootC, hl, hm, z1] at f1 f2 f3 ⊢
  rw [f2]
  exact ⟨by simp [hl, z1], f3⟩
theorem run_rootlit {o : Oper} {a : Act} (x y z : Operand) (ho : o.op = .build 32 #[(0, x), (1, y), (2, z)]) (s : Nat) (l m : List Nat) (hl : l.length = 32) (hm : m.length = 32) (hx : a.eval x = .int .u64 (s : Int)) (hy : a.eval y = .agg (l.map u8).toArray) (hz : a.eval z = .agg (m.map u8).toArray) (w : World) :
    (execOp a.eval o).run Tryd.prog w = .ok (.value (.agg (rootC s l m).toArray)) w := by
  unfold execOp
  have hb := built_root s l m hl hm w
  simp only [ho, List.map_toArray, List.map_cons, List.map_nil, hx, hy, hz, Sem.run_bind, hb, Result.andThen_ok, Sem.run_pure]
theorem Tryd.size_zroot : Tryd.zeroCells32.size = 65 := by kernel_rfl
theorem Tryd.size_node : (Tryd.prog.info? 56).map (·.size) = some 134 := by kernel_rfl

end Go.Proofs.YtbbjbpjpejekgaaDoor
namespace Go.Proofs.YtbbjbpjpejekgaaDoor
open Go.RowKit Go.BigFrame
set_option linter.unusedVariables false
set_option linter.unusedSimpArgs false

set_option maxRecDepth 100000 in
set_option maxHeartbeats 4000000 in
theorem tinput_any (k : Nat) (o : OpD) (pv kv dv : Value) (w : World) (h : OkD w o pv kv dv) (h1 : 1 ≤ k) (hk : k ≤ 32) (k0 : 0 ≤ o.kd ∧ o.kd < 256) (hx0 : o.kd = 4 → o.x ≠ 0) :
    Calls Tryd.prog 21 #[.int .i64 k, .agg (ndC o pv kv dv).toArray] w fun e w' => ∃ v, e = .returned (.tuple #[v, .bool true]) ∧ Rd w' v (ndB k o) ∧ Kept [] w w' := by
  have HCL := hide (by simp [ndC, rootC, h.l.1, h.r.1, h.lg.1, h.mp.1] : (ndC o pv kv dv).length = 134)
  have HKI := hide (fun W (k9 : Kept [] w W) => kids_any k o pv kv dv W (h.old k9) h1 hk)
  obtain ⟨C, hC⟩ : ∃ C, ndC o pv kv dv = C := ⟨_, rfl⟩
  have HG := heap_alloc_new w (.cells C.toArray 56)
  have hcs := nd_cells (o := o) (pv := pv) (kv := kv) (dv := dv) (by rw [hC]; exact HG) h.l.1 h.r.1 h.lg.1
  rw [hC] at HCL HKI ⊢
  have HK0 := hide ((Kept.refl [] w).alloc (.cells C.toArray 56))
  have HH := hide (h.old (unhide HK0))
  obtain ⟨B, hB⟩ : ∃ B, ndB k o = B := ⟨_, rfl⟩
  have HB := hide hB
  rw [hB]
  have HGN := hide HG
  clear HG hC hB
  obtain ⟨W0, hW0⟩ : ∃ W, w.alloc (.cells C.toArray 56) = W := ⟨_, rfl⟩
  go_enter Tryd.func21, Tryd.ntmps21
  rw [hW0] at hcs HK0 HH HGN
  have HW0 := hide hW0
  clear hW0
  obtain ⟨⟨c0, c1⟩, r2, r34, ⟨c66, c67, c68⟩, r69, c69, r70, r102⟩ := hcs
  have HOK := hide (unhide HH).p'
  have HZ := hide (by omega : -9223372036854775808 ≤ (k : Int) ∧ (k : Int) ≤ 9223372036854775807)
  have R2 := hide r2
  have R34 := hide r34
  have R69 := hide r69
  have C1 := hide c1
  have C66 := hide c66
  have C67 := hide c67
  clear r2 r34 r69 r70 r102 c1 c66 c67 c68 c69 h
  have HSL := hide (by rw [List.length_map, (unhide HOK).l.1]; exact Tryd.size_dig : (Tryd.prog.info? 26).map (·.size) = some (o.l.map u8).length)
  have HSR := hide (by rw [List.length_map, (unhide HOK).r.1]; exact Tryd.size_dig : (Tryd.prog.info? 26).map (·.size) = some (o.r.map u8).length)
  have HSG := hide (by rw [List.length_map, (unhide HOK).lg.1]; exact Tryd.size_dig : (Tryd.prog.info? 26).map (·.size) = some (o.lg.map u8).length)
  have HSM := hide (by rw [List.length_map, (unhide HOK).mp.1]; exact Tryd.size_dig : (Tryd.prog.info? 26).map (·.size) = some (o.mp.map u8).length)
  have HSO := hide (by rw [show (rootC o.s o.lg o.mp).length = 65 by simp [rootC, (unhide HOK).lg.1, (unhide HOK).mp.1]]; kernel_rfl : (Tryd.prog.info? 32).map (·.size) = some (rootC o.s o.lg o.mp).length)
  have HSN := hide (by rw [unhide HCL]; exact Tryd.size_node : (Tryd.prog.info? 56).map (·.size) = some C.length)
  have HX0 := hide hx0
  clear hx0
  rcases (by omega : o.kd = 0 ∨ o.kd = 1 ∨ o.kd = 2 ∨ o.kd = 3 ∨ o.kd = 4 ∨ o.kd = 5 ∨ o.kd = 6 ∨ 6 < o.kd) with hkd | hkd | hkd | hkd | hkd | hkd | hkd | hkd
  · rw [hkd] at c0
    have HB2 := hide (by rw [← unhide HB]; simp [ndB, hkd, inB, tp] : B = 0 :: o.p)
    clear hkd k0
    have q1 := unhide C1
    go_wp2_with (rw [unhide HW0])
    refine Calls.mono (leafInput_any _ o.p _ (unhide HH).p (by have := (unhide HH).pl; omega)) ?_
    rintro e w1 ⟨v1, rfl, n1, k1⟩
    have HN1 := hide n1.1
    have HK1 := hide ((unhide HK0).trans k1 (by simp))
    clear n1 k1
    go_wp2
    go_ret2
    exact ⟨_, rfl, by rw [unhide HB2]; exact unhide HN1, unhide HK1⟩
  · rw [hkd] at c0
    have HB2 := hide (by rw [← unhide HB]; simp [ndB, hkd, inB, tp] : B = nodeB (k : Int) (cutL k o.l) (cutL k o.r))
    clear hkd k0
    have HNI := hide (fun W => nodeInput_any (k : Int) (cutL k o.l) (cutL k o.r) W (unhide HZ) (cut_dg hk (unhide HOK).l).1 (cut_dg hk (unhide HOK).r).1 (cut_dg hk (unhide HOK).l).2 (cut_dg hk (unhide HOK).r).2)
    have hfe : formedE (k : Int) [cutL k o.l, cutL k o.r] = 0 := form_two h1 hk (unhide HOK).l (unhide HOK).r
    simp only [hfe, if_true] at HNI
    clear hfe
    have HC1 := hide (fun W => tcut_any k o.l W h1 hk (unhide HOK).l.1 (unhide HOK).l.2)
    have HC2 := hide (fun W => tcut_any k o.r W h1 hk (unhide HOK).r.1 (unhide HOK).r.2)
    obtain ⟨B2, hB2⟩ : ∃ B2, nodeB (k : Int) (cutL k o.l) (cutL k o.r) = B2 := ⟨_, rfl⟩
    rw [hB2] at HB2 HNI
    clear hB2
    generalize cutL k o.l = L at HNI HC1
    generalize cutL k o.r = R at HNI HC2
    go_wp2_with (rw [unhide HW0])
    refine wp_tg15 (by kernel_rfl) (by kernel_rfl) (by kernel_rfl) (by kernel_rfl) (by kernel_rfl) (by kernel_rfl) (by kernel_rfl) (by kernel_rfl) (by kernel_rfl) (by kernel_rfl) (by kernel_rfl) (by kernel_rfl) (by kernel_rfl) (by kernel_rfl) (by kernel_rfl) (by kernel_rfl) (by kernel_rfl) (by kernel_rfl) (by kernel_rfl) (by kernel_rfl) (by kernel_rfl) (by kernel_rfl) (by kernel_rfl) (by kernel_rfl) (by kernel_rfl) (by kernel_rfl) (by kernel_rfl) (by kernel_rfl) (by kernel_rfl) (by kernel_rfl) rfl rfl rfl
      (.int .i64 (k : Int)) (.int .i64 (k : Int)) (.pointer (some ⟨w.heap.size, 2, none⟩)) (.agg (o.l.map u8).toArray) (.int .i64 (k : Int)) (.pointer (some ⟨w.heap.size, 34, none⟩)) (.agg (o.r.map u8).toArray) _ _ _ _ _ _ _
      (fun w' => Kept [] W0 w')
      (fun w' => Kept [] W0 w')
      (fun u w' => u = .agg (brow L) ∧ Kept [] W0 w')
      (fun u u2 w' => u = .agg (brow L) ∧ u2 = .agg (brow R) ∧ Kept [] W0 w')
      (fun u u2 u3 w' => u = .agg (brow L) ∧ u2 = .agg (brow R) ∧ ∃ v, u3 = .tuple #[v, .int .i64 0] ∧ Rd w' v B2 ∧ Kept [] W0 w')
      (fun u => u) (fun u => tpA u 0) (fun u => tpA u 1) (fun u => tpA u 0) (fun u => tpA u 1)
      (by simp only [Act.put, List.setIfInBounds_toArray, List.set_cons_zero, List.set_cons_succ]; rfl) (by exact Or.inl ⟨by rfl, fun W' hW' => by go_simp⟩)
      (by simp only [Act.put, List.setIfInBounds_toArray, List.set_cons_zero, List.set_cons_succ]; rfl) (by exact Or.inl ⟨by rfl, fun W' hW' => by go_simp⟩)
      (by simp only [Act.put, List.setIfInBounds_toArray, List.set_cons_zero, List.set_cons_succ]; rfl) (by exact Or.inl ⟨by rfl, fun W' hW' => by go_simp⟩)
      (by simp only [Act.put, List.setIfInBounds_toArray, List.set_cons_zero, List.set_cons_succ]; rfl) (by exact Or.inl ⟨by rfl, fun W' hW' => run_loadM 26 (.tmp 25) rfl w.heap.size 2 rfl W' (o.l.map u8) _ (range_kept (unhide R2) hW' (by simp)) Tryd.underlying26 rfl (unhide HSL)⟩)
      (by simp only [Act.put, List.setIfInBounds_toArray, List.set_cons_zero, List.set_cons_succ]; rfl) (by exact Or.inl ⟨by rfl, fun W' hW' => by go_simp⟩)
      (by simp only [Act.put, List.setIfInBounds_toArray, List.set_cons_zero, List.set_cons_succ]; rfl) (by exact Or.inl ⟨by rfl, fun W' hW' => by go_simp⟩)
      (by simp only [Act.put, List.setIfInBounds_toArray, List.set_cons_zero, List.set_cons_succ]; rfl) (by exact Or.inl ⟨by rfl, fun W' hW' => run_loadM 26 (.tmp 29) rfl w.heap.size 34 rfl W' (o.r.map u8) _ (range_kept (unhide R34) hW' (by simp)) Tryd.underlying26 rfl (unhide HSR)⟩)
      (Kept.refl [] W0).drew
      ⟨fun w' h => h, fun u w' h => h.2, fun u u2 w' h => h.2.2, fun u u2 u3 w' ⟨_, _, _, _, _, k⟩ => k⟩
      (by
        intro w' i9 K hK
        refine wp_callN rfl Tryd.call60 [.int .i64 (k : Int), .agg (o.l.map u8).toArray] rfl (unhide HC1 w') ?_
        rintro e w2 ⟨rfl, k2⟩
        exact ⟨_, rfl, hK _ _ ⟨rfl, i9.trans k2 (by simp)⟩⟩)
      (by
        rintro u w' ⟨rfl, i9⟩ K hK
        refine wp_callN rfl Tryd.call60 [.int .i64 (k : Int), .agg (o.r.map u8).toArray] rfl (unhide HC2 w') ?_
        rintro e w2 ⟨rfl, k2⟩
        exact ⟨_, rfl, hK _ _ ⟨rfl, rfl, i9.trans k2 (by simp)⟩⟩)
      (by
        rintro u u2 w' ⟨rfl, rfl, i9⟩ K hK
        refine wp_callN rfl Tryd.call36 [.int .i64 (k : Int), .agg (brow L), .agg (brow R)] rfl (unhide HNI w') ?_
        rintro e w2 ⟨v, rfl, n2, k2⟩
        exact ⟨_, rfl, hK _ _ ⟨rfl, rfl, v, rfl, n2.1, i9.trans k2 (by simp)⟩⟩)
      (by rintro u u2 u3 w' ⟨rfl, rfl, v9, rfl, hr9, k9⟩; exact Or.inl ⟨by rfl, fun W' hW' => by (try simp only [tpA]); go_simp⟩)
      (by rintro u u2 u3 w' ⟨rfl, rfl, v9, rfl, hr9, k9⟩; exact Or.inl ⟨by rfl, fun W' hW' => by (try simp only [tpA]); go_simp⟩)
      (by rintro u u2 u3 w' ⟨rfl, rfl, v9, rfl, hr9, k9⟩; exact Or.inl ⟨by rfl, fun W' hW' => by (try simp only [tpA]); go_simp⟩)
      (by rintro u u2 u3 w' ⟨rfl, rfl, v9, rfl, hr9, k9⟩; exact Or.inl ⟨by rfl, fun W' hW' => by (try simp only [tpA]); go_simp⟩)
      (by rintro u u2 u3 w' ⟨rfl, rfl, v9, rfl, hr9, k9⟩; exact Or.inl ⟨by rfl, fun W' hW' => by (try simp only [tpA]); go_simp⟩)
      ?_
    rintro u u2 u3 w12 ⟨rfl, rfl, v9, rfl, hr9, k9⟩
    simp only [Act.put, List.setIfInBounds_toArray, List.set_cons_zero, List.set_cons_succ, tpA, List.getD_cons_zero, List.getD_cons_succ]
    have HN1 := hide hr9
    have HK1 := hide ((unhide HK0).trans k9 (by simp))
    clear hr9 k9
    go_wp2
    go_ret2
    exact ⟨_, rfl, by rw [unhide HB2]; exact unhide HN1, unhide HK1⟩
  · rw [hkd] at c0
    have HB2 := hide (by rw [← unhide HB]; simp [ndB, hkd, inB, tp] : B = 2 :: o.p)
    clear hkd k0
    have q1 := unhide C1
    go_wp2_with (rw [unhide HW0])
    refine Calls.mono (keyInput_any _ o.p _ (unhide HH).p (by have := (unhide HH).pl; omega)) ?_
    rintro e w1 ⟨v1, rfl, n1, k1⟩
    have HN1 := hide n1.1
    have HK1 := hide ((unhide HK0).trans k1 (by simp))
    clear n1 k1
    go_wp2
    go_ret2
    exact ⟨_, rfl, by rw [unhide HB2]; exact unhide HN1, unhide HK1⟩
  · rw [hkd] at c0
    have HB2 := hide (by rw [← unhide HB]; simp [ndB, hkd, inB, tp] : B = buckB o.ps)
    clear hkd k0
    have q1 := unhide C66
    go_wp2_with (rw [unhide HW0])
    refine Calls.mono (bucketInput_any _ o.ps _ (unhide HH).ps (unhide HH).psl) ?_
    rintro e w1 ⟨v1, rfl, n1, k1⟩
    have HN1 := hide n1.1
    have HK1 := hide ((unhide HK0).trans k1 (by simp))
    clear n1 k1
    go_wp2
    go_ret2
    exact ⟨_, rfl, by rw [unhide HB2]; exact unhide HN1, unhide HK1⟩
  · have hxn := unhide HX0 hkd
    rw [hkd] at c0
    have HB2 := hide (by rw [← unhide HB]; simp [ndB, hkd, inB, tp] : B = branchB (k : Int) o.x (kidL k o.x o.ds))
    clear hkd k0
    have HBI := hide (fun W v (hv : RdD W v (kidL k o.x o.ds)) => branchInput_any (k : Int) o.x v (kidL k o.x o.ds) W (unhide HZ) (unhide HOK).x hv)
    have hfe : branchE (k : Int) o.x (kidL k o.x o.ds) = 0 := form_kids h1 hk (unhide HOK).x hxn (unhide HOK).ds
    simp only [hfe, if_true] at HBI
    clear hfe hxn
    obtain ⟨B2, hB2⟩ : ∃ B2, branchB (k : Int) o.x (kidL k o.x o.ds) = B2 := ⟨_, rfl⟩
    rw [hB2] at HB2 HBI
    clear hB2
    generalize kidL k o.x o.ds = KL at HBI HKI
    generalize o.x = x at C67 HBI
    go_wp2_with (rw [unhide HW0])
    refine wp_tg12 (by kernel_rfl) (by kernel_rfl) (by kernel_rfl) (by kernel_rfl) (by kernel_rfl) (by kernel_rfl) (by kernel_rfl) (by kernel_rfl) (by kernel_rfl) (by kernel_rfl) (by kernel_rfl) (by kernel_rfl) (by kernel_rfl) (by kernel_rfl) (by kernel_rfl) (by kernel_rfl) (by kernel_rfl) (by kernel_rfl) (by kernel_rfl) (by kernel_rfl) (by kernel_rfl) (by kernel_rfl) (by kernel_rfl) (by kernel_rfl) (by kernel_rfl) rfl rfl
      (.int .i64 (k : Int)) (.pointer (some ⟨w.heap.size, 67, none⟩)) (.int .u16 (x : Int)) (.int .i64 (k : Int)) (.agg C.toArray) _ _ _ _ _
      (fun w' => Kept [] W0 w')
      (fun w' => Kept [] W0 w')
      (fun u w' => RdD w' u KL ∧ Kept [] W0 w')
      (fun u u3 w' => ∃ v, u3 = .tuple #[v, .int .i64 0] ∧ Rd w' v B2 ∧ Kept [] W0 w')
      (fun u => u) (fun u => tpA u 0) (fun u => tpA u 1) (fun u => tpA u 0) (fun u => tpA u 1)
      (by simp only [Act.put, List.setIfInBounds_toArray, List.set_cons_zero, List.set_cons_succ]; rfl) (by exact Or.inl ⟨by rfl, fun W' hW' => by go_simp⟩)
      (by simp only [Act.put, List.setIfInBounds_toArray, List.set_cons_zero, List.set_cons_succ]; rfl) (by exact Or.inl ⟨by rfl, fun W' hW' => by go_simp⟩)
      (by simp only [Act.put, List.setIfInBounds_toArray, List.set_cons_zero, List.set_cons_succ]; rfl) (by exact Or.inl ⟨by rfl, fun W' hW' => run_load1 28 (.tmp 52) rfl ⟨w.heap.size, 67, none⟩ rfl W' _ .u16 Tryd.underlying28 (hW'.cell (unhide C67) (by simp))⟩)
      (by simp only [Act.put, List.setIfInBounds_toArray, List.set_cons_zero, List.set_cons_succ]; rfl) (by exact Or.inl ⟨by rfl, fun W' hW' => by go_simp⟩)
      (by simp only [Act.put, List.setIfInBounds_toArray, List.set_cons_zero, List.set_cons_succ]; rfl) (by exact Or.inl ⟨by rfl, fun W' hW' => run_loadM 56 (.tmp 3) rfl w.heap.size 0 rfl W' C _ (range_all (hW'.heap (unhide HGN) (by simp))) Tryd.underlying56 rfl (unhide HSN)⟩)
      (Kept.refl [] W0).drew
      ⟨fun w' h => h, fun u w' h => h.2, fun u u2 w' ⟨_, _, _, k⟩ => k⟩
      (by
        intro w' i9 K hK
        refine wp_callN rfl Tryd.call61 [.int .i64 (k : Int), .agg C.toArray] rfl (unhide HKI w' ((unhide HK0).trans i9 (by simp))) ?_
        rintro e w2 ⟨v, rfl, r2, k2⟩
        exact ⟨_, rfl, hK _ _ ⟨r2, i9.trans k2 (by simp)⟩⟩)
      (by
        rintro u w' ⟨r9, i9⟩ K hK
        refine wp_callN rfl Tryd.call39 [.int .i64 (k : Int), .int .u16 (x : Int), u] rfl (unhide HBI w' u r9) ?_
        rintro e w2 ⟨v, rfl, n2, k2⟩
        exact ⟨_, rfl, hK _ _ ⟨v, rfl, n2.1, i9.trans k2 (by simp)⟩⟩)
      (by rintro u u2 w' ⟨v9, rfl, hr9, k9⟩; exact Or.inl ⟨by rfl, fun W' hW' => by (try simp only [tpA]); go_simp⟩)
      (by rintro u u2 w' ⟨v9, rfl, hr9, k9⟩; exact Or.inl ⟨by rfl, fun W' hW' => by (try simp only [tpA]); go_simp⟩)
      (by rintro u u2 w' ⟨v9, rfl, hr9, k9⟩; exact Or.inl ⟨by rfl, fun W' hW' => by (try simp only [tpA]); go_simp⟩)
      (by rintro u u2 w' ⟨v9, rfl, hr9, k9⟩; exact Or.inl ⟨by rfl, fun W' hW' => by (try simp only [tpA]); go_simp⟩)
      (by rintro u u2 w' ⟨v9, rfl, hr9, k9⟩; exact Or.inl ⟨by rfl, fun W' hW' => by (try simp only [tpA]); go_simp⟩)
      ?_
    rintro u u2 w12 ⟨v9, rfl, hr9, k9⟩
    simp only [Act.put, List.setIfInBounds_toArray, List.set_cons_zero, List.set_cons_succ, tpA, List.getD_cons_zero, List.getD_cons_succ]
    have HN1 := hide hr9
    have HK1 := hide ((unhide HK0).trans k9 (by simp))
    clear hr9 k9
    go_wp2
    go_ret2
    exact ⟨_, rfl, by rw [unhide HB2]; exact unhide HN1, unhide HK1⟩
  · rw [hkd] at c0
    have HB2 := hide (by rw [← unhide HB]; simp [ndB, hkd, inB, tp] : B = rootB (k : Int) o.s (cutL k o.lg) (cutL k o.mp))
    clear hkd k0
    have HNI := hide (fun W => rootInput_any (k : Int) o.s (cutL k o.lg) (cutL k o.mp) W (unhide HZ) (unhide HOK).s (cut_dg hk (unhide HOK).lg).1 (cut_dg hk (unhide HOK).mp).1 (cut_dg hk (unhide HOK).lg).2 (cut_dg hk (unhide HOK).mp).2)
    have hfe : formedE (k : Int) [cutL k o.lg, cutL k o.mp] = 0 := form_two h1 hk (unhide HOK).lg (unhide HOK).mp
    simp only [hfe, if_true] at HNI
    clear hfe
    have HC1 := hide (fun W => tcut_any k o.lg W h1 hk (unhide HOK).lg.1 (unhide HOK).lg.2)
    have HC2 := hide (fun W => tcut_any k o.mp W h1 hk (unhide HOK).mp.1 (unhide HOK).mp.2)
    have HDL := hide (cut_dg hk (unhide HOK).lg)
    have HDR := hide (cut_dg hk (unhide HOK).mp)
    obtain ⟨B2, hB2⟩ : ∃ B2, rootB (k : Int) o.s (cutL k o.lg) (cutL k o.mp) = B2 := ⟨_, rfl⟩
    rw [hB2] at HB2 HNI
    clear hB2
    generalize cutL k o.lg = L at HNI HC1 HDL
    generalize cutL k o.mp = R at HNI HC2 HDR
    have HZR := hide (heap_alloc_new W0 (.cells Tryd.zeroCells32 32))
    have HRR := hide (setRow_heap (W0.alloc (.cells Tryd.zeroCells32 32)) W0.heap.size _ (rootC o.s o.lg o.mp).toArray 32 (0, 0) (unhide HZR))
    have HKR := hide (((Kept.refl [] W0).alloc (.cells Tryd.zeroCells32 32)).setRow (g := W0.heap.size) (Or.inr (Nat.le_refl _)) (rootC o.s o.lg o.mp).toArray)
    obtain ⟨W2, hW2⟩ : ∃ W2, (W0.alloc (.cells Tryd.zeroCells32 32)).setRow W0.heap.size (rootC o.s o.lg o.mp).toArray = W2 := ⟨_, rfl⟩
    rw [hW2] at HRR HKR
    have HW2 := hide hW2
    have HS65 := hide (by simp [rootC, (unhide HOK).lg.1, (unhide HOK).mp.1] : (rootC o.s o.lg o.mp).length = 65)
    have HRS := hide (by rw [List.size_toArray]; exact unhide HSO : (Tryd.prog.info? 32).map (·.size) = some (rootC o.s o.lg o.mp).toArray.size)
    have HR1 := hide (rootC_one o.s o.lg o.mp)
    have HZS := hide (Tryd.size_zroot.trans (List.size_toArray.trans (unhide HS65)).symm : Tryd.zeroCells32.size = (rootC o.s o.lg o.mp).toArray.size)
    have hpc := root_cells (unhide HRR) (unhide HOK).lg.1
    have P0 := hide hpc.1
    have P1 := hide hpc.2.1
    have P33 := hide hpc.2.2
    clear hW2 hpc
    generalize o.s = s at HNI P0 HRS HSO HS65 HR1 HW2 R69 HZS
    go_wp2_with (first
      | (rw [unhide HW0])
      | (refine wpList_load_mid rfl 32 _ rfl w.heap.size 69 rfl (rootC s o.lg o.mp) _ (unhide R69) Tryd.underlying32 rfl (unhide HSO) ?_)
      | (refine wpList_store_row rfl 32 (.tmp 10) _ rfl W0.heap.size (rootC s o.lg o.mp).toArray rfl rfl _ Tryd.zeroCells32 (unhide HZR) (unhide HRS) (unhide HZS) (unhide HR1) ?_; rw [unhide HW2]))
    refine wp_tg18 (by kernel_rfl) (by kernel_rfl) (by kernel_rfl) (by kernel_rfl) (by kernel_rfl) (by kernel_rfl) (by kernel_rfl) (by kernel_rfl) (by kernel_rfl) (by kernel_rfl) (by kernel_rfl) (by kernel_rfl) (by kernel_rfl) (by kernel_rfl) (by kernel_rfl) (by kernel_rfl) (by kernel_rfl) (by kernel_rfl) (by kernel_rfl) (by kernel_rfl) (by kernel_rfl) (by kernel_rfl) (by kernel_rfl) (by kernel_rfl) (by kernel_rfl) (by kernel_rfl) (by kernel_rfl) (by kernel_rfl) (by kernel_rfl) (by kernel_rfl) (by kernel_rfl) (by kernel_rfl) (by kernel_rfl) (by kernel_rfl) (by kernel_rfl) (by kernel_rfl) rfl rfl rfl
      (.int .i64 (k : Int)) (.pointer (some ⟨W0.heap.size, 0, none⟩)) (.int .u64 (s : Int)) (.int .i64 (k : Int)) (.pointer (some ⟨W0.heap.size, 1, none⟩)) (.agg (o.lg.map u8).toArray) (.int .i64 (k : Int)) (.pointer (some ⟨W0.heap.size, 33, none⟩)) (.agg (o.mp.map u8).toArray) _ _ _ _ _ _ _ _ _
      (fun w' => Kept [] W2 w')
      (fun w' => Kept [] W2 w')
      (fun u w' => u = .agg (brow L) ∧ Kept [] W2 w')
      (fun u u2 w' => u = .agg (brow L) ∧ u2 = .agg (brow R) ∧ Kept [] W2 w')
      (fun u u2 u3 w' => u = .agg (brow L) ∧ u2 = .agg (brow R) ∧ ∃ v, u3 = .tuple #[v, .int .i64 0] ∧ Rd w' v B2 ∧ Kept [] W2 w')
      (fun _ _ => .agg (rootC s L R).toArray) (fun u => u) (fun u => tpA u 0) (fun u => tpA u 1) (fun u => tpA u 0) (fun u => tpA u 1)
      (by simp only [Act.put, List.setIfInBounds_toArray, List.set_cons_zero, List.set_cons_succ]; rfl) (by exact Or.inl ⟨by rfl, fun W' hW' => by go_simp⟩)
      (by simp only [Act.put, List.setIfInBounds_toArray, List.set_cons_zero, List.set_cons_succ]; rfl) (by exact Or.inl ⟨by rfl, fun W' hW' => by go_simp⟩)
      (by simp only [Act.put, List.setIfInBounds_toArray, List.set_cons_zero, List.set_cons_succ]; rfl) (by exact Or.inl ⟨by rfl, fun W' hW' => run_load1 30 (.tmp 69) rfl ⟨W0.heap.size, 0, none⟩ rfl W' _ .u64 Tryd.underlying30 (hW'.cell (unhide P0) (by simp))⟩)
      (by simp only [Act.put, List.setIfInBounds_toArray, List.set_cons_zero, List.set_cons_succ]; rfl) (by exact Or.inl ⟨by rfl, fun W' hW' => by go_simp⟩)
      (by simp only [Act.put, List.setIfInBounds_toArray, List.set_cons_zero, List.set_cons_succ]; rfl) (by exact Or.inl ⟨by rfl, fun W' hW' => by go_simp⟩)
      (by simp only [Act.put, List.setIfInBounds_toArray, List.set_cons_zero, List.set_cons_succ]; rfl) (by exact Or.inl ⟨by rfl, fun W' hW' => run_loadM 26 (.tmp 72) rfl W0.heap.size 1 rfl W' (o.lg.map u8) _ (range_kept (unhide P1) hW' (by simp)) Tryd.underlying26 rfl (unhide HSG)⟩)
      (by simp only [Act.put, List.setIfInBounds_toArray, List.set_cons_zero, List.set_cons_succ]; rfl) (by exact Or.inl ⟨by rfl, fun W' hW' => by go_simp⟩)
      (by simp only [Act.put, List.setIfInBounds_toArray, List.set_cons_zero, List.set_cons_succ]; rfl) (by exact Or.inl ⟨by rfl, fun W' hW' => by go_simp⟩)
      (by simp only [Act.put, List.setIfInBounds_toArray, List.set_cons_zero, List.set_cons_succ]; rfl) (by exact Or.inl ⟨by rfl, fun W' hW' => run_loadM 26 (.tmp 76) rfl W0.heap.size 33 rfl W' (o.mp.map u8) _ (range_kept (unhide P33) hW' (by simp)) Tryd.underlying26 rfl (unhide HSM)⟩)
      (Kept.refl [] W2).drew
      ⟨fun w' h => h, fun u w' h => h.2, fun u u2 w' h => h.2.2, fun u u2 u3 w' ⟨_, _, _, _, _, k⟩ => k⟩
      (by
        intro w' i9 K hK
        refine wp_callN rfl Tryd.call60 [.int .i64 (k : Int), .agg (o.lg.map u8).toArray] rfl (unhide HC1 w') ?_
        rintro e w2 ⟨rfl, k2⟩
        exact ⟨_, rfl, hK _ _ ⟨rfl, i9.trans k2 (by simp)⟩⟩)
      (by
        rintro u w' ⟨rfl, i9⟩ K hK
        refine wp_callN rfl Tryd.call60 [.int .i64 (k : Int), .agg (o.mp.map u8).toArray] rfl (unhide HC2 w') ?_
        rintro e w2 ⟨rfl, k2⟩
        exact ⟨_, rfl, hK _ _ ⟨rfl, rfl, i9.trans k2 (by simp)⟩⟩)
      (by
        rintro u u2 w' ⟨rfl, rfl, i9⟩ K hK
        refine wp_callN rfl Tryd.call24 [.int .i64 (k : Int), .agg (rootC s L R).toArray] rfl (unhide HNI w') ?_
        rintro e w2 ⟨v, rfl, n2, k2⟩
        exact ⟨_, rfl, hK _ _ ⟨rfl, rfl, v, rfl, n2.1, i9.trans k2 (by simp)⟩⟩)
      (by rintro u u2 w' ⟨rfl, rfl, i9⟩; exact Or.inl ⟨by rfl, fun W' hW' => run_rootlit (.tmp 70) (.tmp 74) (.tmp 78) rfl s L R (unhide HDL).1 (unhide HDR).1 rfl rfl rfl W'⟩)
      (by rintro u u2 u3 w' ⟨rfl, rfl, v9, rfl, hr9, k9⟩; exact Or.inl ⟨by rfl, fun W' hW' => by (try simp only [tpA]); go_simp⟩)
      (by rintro u u2 u3 w' ⟨rfl, rfl, v9, rfl, hr9, k9⟩; exact Or.inl ⟨by rfl, fun W' hW' => by (try simp only [tpA]); go_simp⟩)
      (by rintro u u2 u3 w' ⟨rfl, rfl, v9, rfl, hr9, k9⟩; exact Or.inl ⟨by rfl, fun W' hW' => by (try simp only [tpA]); go_simp⟩)
      (by rintro u u2 u3 w' ⟨rfl, rfl, v9, rfl, hr9, k9⟩; exact Or.inl ⟨by rfl, fun W' hW' => by (try simp only [tpA]); go_simp⟩)
      (by rintro u u2 u3 w' ⟨rfl, rfl, v9, rfl, hr9, k9⟩; exact Or.inl ⟨by rfl, fun W' hW' => by (try simp only [tpA]); go_simp⟩)
      ?_
    rintro u u2 u3 w12 ⟨rfl, rfl, v9, rfl, hr9, k9⟩
    simp only [Act.put, List.setIfInBounds_toArray, List.set_cons_zero, List.set_cons_succ, tpA, List.getD_cons_zero, List.getD_cons_succ]
    have HN1 := hide hr9
    have HK1 := hide (((unhide HK0).trans (unhide HKR) (by simp)).trans k9 (by simp))
    clear hr9 k9
    go_wp2
    go_ret2
    exact ⟨_, rfl, by rw [unhide HB2]; exact unhide HN1, unhide HK1⟩
  · rw [hkd] at c0
    have HB2 := hide (by rw [← unhide HB]; simp [ndB, hkd] : B = [])
    clear hkd k0
    go_wp2_with (rw [unhide HW0])
    go_ret2
    exact ⟨_, rfl, by rw [unhide HB2]; exact Rd.nil _, unhide HK0⟩
  · have HB2 := hide (by rw [← unhide HB]; unfold ndB; rw [if_neg (by omega), if_neg (by omega)] : B = [5])
    generalize o.kd = q at c0 hkd k0
    have e0 : (q == 0) = false := by simp; omega
    have e1 : (q == 1) = false := by simp; omega
    have e2 : (q == 2) = false := by simp; omega
    have e3 : (q == 3) = false := by simp; omega
    have e4 : (q == 4) = false := by simp; omega
    have e5 : (q == 5) = false := by simp; omega
    have e6 : (q == 6) = false := by simp; omega
    clear hkd k0
    go_wp2_with (rw [unhide HW0])
    go_ret2
    exact ⟨_, rfl, by rw [unhide HB2]; exact rd_lit1 [5] (heap_alloc_new _ _) rfl (by simp) 1 rfl (by omega), (unhide HK0).alloc _⟩
end Go.Proofs.YtbbjbpjpejekgaaDoor

namespace Go.Proofs.YtbbjbpjpejekgaaDoor
open Go.RowKit
set_option linter.unusedVariables false
set_option linter.unusedSimpArgs false

/-- The string that bytes make. -/
def strOf (p : List Nat) : ByteArray := ⟨(p.map UInt8.ofNat).toArray⟩

theorem ba_loop (s : ByteArray) : ∀ n i r, s.size - i = n → ByteArray.toList.loop s i r = r.reverse ++ s.data.toList.drop i := by
  intro n
  induction n with
  | zero =>
    intro i r h
    rw [ByteArray.toList.loop]
    have h1 : s.size = s.data.toList.length := (Array.length_toList).symm
    rw [if_neg (by omega), List.drop_eq_nil_of_le (by omega), List.append_nil]
  | succ n ih =>
    intro i r h
    rw [ByteArray.toList.loop]
    have h1 : s.size = s.data.toList.length := (Array.length_toList).symm
    have h2 : i < s.data.toList.length := by omega
    rw [if_pos (by omega), ih (i + 1) _ (by omega), List.drop_eq_getElem_cons h2]
    have h3 : s.get! i = s.data.toList[i] := by
      have h4 : i < s.data.size := by simpa using h2
      rw [Array.getElem_toList]
      exact getElem!_pos s.data i h4
    simp [h3]
theorem ba_toList (s : ByteArray) : s.toList = s.data.toList := by
  unfold ByteArray.toList
  rw [ba_loop s _ 0 [] rfl]
  simp

theorem strOf_inj {p q : List Nat} (hp : ∀ x ∈ p, x < 256) (hq : ∀ x ∈ q, x < 256) (h : strOf p = strOf q) : p = q := by
  have h1 : p.map UInt8.ofNat = q.map UInt8.ofNat := by
    have := congrArg (fun b => b.data.toList) h
    simpa [strOf] using this
  have h2 := congrArg (List.map UInt8.toNat) h1
  simp only [List.map_map] at h2
  have e : ∀ l : List Nat, (∀ x ∈ l, x < 256) → l.map (UInt8.toNat ∘ UInt8.ofNat) = l := by
    intro l hl
    conv => rhs; rw [← List.map_id l]
    apply List.map_congr_left
    intro x hx
    have := hl x hx
    simp [UInt8.toNat_ofNat]; omega
  rw [e p hp, e q hq] at h2
  exact h2

theorem conv_any (v : Value) (p : List Nat) (w : World) (h : Rd w v p) (hu5 : Tryd.prog.underlying 5 = some (.int .u8)) (hu9 : Tryd.prog.underlying 9 = some .string) :
    (convert 24 9 v).run Tryd.prog w = .ok (.string (strOf p)) w := by
  obtain ⟨ao, len, cap, rfl, rfl, h2, h3, h4, h5, h6⟩ := h
  have hl : p.length = (p.map UInt8.ofNat).length := by simp
  cases ao with
  | none =>
    have hz := h4 rfl
    have hp0 : p = [] := List.eq_nil_of_length_eq_zero (by omega)
    subst hp0
    rw [run_convert_bytes_string w 24 9 5 none _ cap Tryd.underlying24 hu5 hu9]
    simp [Conv.bytesToString, strOf]
    rfl
  | some a =>
    rw [hl]
    refine run_convert_bytes_back w 24 9 5 a cap (p.map UInt8.ofNat) Tryd.underlying24 hu5 hu9 (fun j hj => ?_)
    simp at hj
    obtain ⟨b, off, he, hc⟩ := h6 (by omega)
    cases he
    have := hc j hj
    rw [Addr.add_mid, this]
    have hb := h5 (p[j]) (List.getElem_mem hj)
    simp [u8, List.getD_eq_getElem?_getD, List.getElem?_eq_getElem hj, UInt8.toNat_ofNat]
    omega

set_option maxRecDepth 100000 in
set_option maxHeartbeats 2000000 in
theorem tsame_any (u v : Value) (p q : List Nat) (w : World) (hu : Rd w u p) (hv : Rd w v q) :
    Calls Tryd.prog 22 #[u, v] w fun e w' => e = .returned (.bool (decide (p = q))) ∧ w' = w := by
  have hu5 : Tryd.prog.underlying 5 = some (.int .u8) := by kernel_rfl
  have hu9 : Tryd.prog.underlying 9 = some .string := by kernel_rfl
  have c1 := conv_any u p w hu hu5 hu9
  have c2 := conv_any v q w hv hu5 hu9
  have hd : ((strOf p).toList == (strOf q).toList) = decide (p = q) := by
    rw [ba_toList, ba_toList]
    by_cases h : p = q
    · subst h; simp
    · have h2 : ¬ (strOf p).data.toList = (strOf q).data.toList := fun e => h (strOf_inj hu.byte hv.byte (by
        have e2 := congrArg List.toArray e
        simp only [Array.toArray_toList] at e2
        cases hp : strOf p; cases hq : strOf q
        rw [hp, hq] at e2
        simp only at e2
        rw [e2]))
      rw [decide_eq_false h]
      exact beq_eq_false_iff_ne.2 h2
  have Hd := hide hd
  generalize strOf p = s1 at *
  generalize strOf q = s2 at *
  clear hu hv hu5 hu9 hd
  go_enter Tryd.func22, Tryd.ntmps22
  go_wp2
  go_ret
  exact ⟨by rw [unhide Hd]; rfl, rfl⟩
end Go.Proofs.YtbbjbpjpejekgaaDoor
namespace Go.Proofs.YtbbjbpjpejekgaaDoor
open Go.RowKit Go.BigFrame
set_option linter.unusedVariables false
set_option linter.unusedSimpArgs false

theorem tsameQ (u v : Value) (p q : List Nat) (w : World) (hu : Rd w u p) (hv : Rd w v q) :
    Calls Tryd.prog 22 #[u, v] w fun e w' => e = .returned (.bool (decide (p = q))) ∧ ∃ m, w' = w.drewN m :=
  (tsame_any u v p q w hu hv).mono fun e w' h => ⟨h.1, 0, by rw [h.2]; rfl⟩

set_option maxRecDepth 100000 in
set_option maxHeartbeats 1000000 in
theorem tpairs_any (u v : Value) (ps qs : List (List Nat × List Nat)) (w : World) (hu : RdK w u ps) (hv : RdK w v qs) :
    Calls Tryd.prog 62 #[u, v] w fun e w' => e = .returned (.bool (decide (ps = qs))) ∧ Kept [] w w' := by
  obtain ⟨ao, len, cap, vs, us, rfl, h1, h2, h3, h4, h5⟩ := hu
  obtain ⟨ao', len', cap', vs', us', rfl, g1, g2, g3, g4, g5⟩ := hv
  have H4 := hide h4
  have H5 := hide h5
  have G4 := hide g4
  have G5 := hide g5
  clear h4 h5 g4 g5
  subst h1
  subst g1
  go_enter Tryd.func62, Tryd.ntmps62
  by_cases hl : ps.length = qs.length
  · have hb : ((ps.length : Int) != (qs.length : Int)) = false := by rw [hl]; simp
    have HL := hide hl
    clear hl
    go_wp2_with fail
    go_loopw [5] (fun t12 wr => ∃ (i : Nat), i ≤ ps.length ∧ t12 = .int .i64 i ∧ Hid (ps.take i = qs.take i) ∧ Hid (Kept [] w wr)) (fun t _ => ps.length - (intOf t).toNat)
    case atStart => exact ⟨0, Nat.zero_le _, rfl, hide (by simp), hide (Kept.refl _ _)⟩
    case round =>
      obtain ⟨i, hi, rfl, HA, HK⟩ := hrel
      by_cases hlt : i < ps.length
      · have hlt' : (i : Int) < ps.length := by omega
        have hle : i < qs.length := by rw [← unhide HL]; exact hlt
        have hle' : (i : Int) < qs.length := by omega
        obtain ⟨b, o, rfl, hcell⟩ := unhide H5 (by omega)
        obtain ⟨b', o', rfl, gcell⟩ := unhide G5 (by omega)
        have p1 := (unhide HK).cell (hcell i hlt).1 (by simp)
        have p2 := (unhide HK).cell (hcell i hlt).2 (by simp)
        have q1 := (unhide HK).cell (gcell i hle).1 (by simp)
        have q2 := (unhide HK).cell (gcell i hle).2 (by simp)
        have HP := hide (unhide H4 i hlt)
        have HQ := hide (unhide G4 i hle)
        have e1 : ps.getD i ([], []) = ps[i] := by rw [List.getD_eq_getElem?_getD, List.getElem?_eq_getElem hlt]; rfl
        have e2 : qs.getD i ([], []) = qs[i] := by rw [List.getD_eq_getElem?_getD, List.getElem?_eq_getElem hle]; rfl
        have HN := hide (fun (h : ps.getD i ([], []) = qs.getD i ([], [])) => take_same ps qs i hlt hle (unhide HA) (by rw [← e1, ← e2]; exact h))
        have HM := hide (fun (h : ¬ ps.getD i ([], []) = qs.getD i ([], [])) => decide_eq_false (fun e => h (by rw [e]) : ¬ ps = qs))
        clear hcell gcell e1 e2
        generalize ps.getD i ([], []) = x at HP HN HM
        generalize qs.getD i ([], []) = y at HQ HN HM
        generalize vs.getD i undef = va at p1 HP
        generalize us.getD i undef = vb at p2 HP
        generalize vs'.getD i undef = vc at q1 HQ
        generalize us'.getD i undef = vd at q2 HQ
        obtain ⟨xk, xv⟩ := x
        obtain ⟨yk, yv⟩ := y
        simp only at HP HQ
        have T1 : Hid (∀ n, Calls Tryd.prog 22 #[va, vc] (wr.drewN n) fun e w' => e = .returned (.bool (decide (xk = yk))) ∧ ∃ m, w' = (wr.drewN n).drewN m) := hide fun n => tsameQ _ _ xk yk _ ((unhide HP).1.old ((unhide HK).drewN n) (by simp)) ((unhide HQ).1.old ((unhide HK).drewN n) (by simp))
        have T2 : Hid (∀ n, Calls Tryd.prog 22 #[vb, vd] (wr.drewN n) fun e w' => e = .returned (.bool (decide (xv = yv))) ∧ ∃ m, w' = (wr.drewN n).drewN m) := hide fun n => tsameQ _ _ xv yv _ ((unhide HP).2.old ((unhide HK).drewN n) (by simp)) ((unhide HQ).2.old ((unhide HK).drewN n) (by simp))
        by_cases hk : xk = yk
        · rw [decide_eq_true hk] at T1
          by_cases hk2 : xv = yv
          · rw [decide_eq_true hk2] at T2
            have HKK := hide hk
            have HK2 := hide hk2
            clear hk hk2
            go_wp2_with fail
            go_quiet (first | (go_at_call 22; with_reducible exact Calls.quiet_of (unhide T1 _)) | (go_at_call 22; with_reducible exact Calls.quiet_of (unhide T2 _)))
            go_wp2
            refine ⟨⟨i + 1, by omega, by go_num, hide (unhide HN (by rw [unhide HKK, unhide HK2])), hide ((unhide HK).drewN nq)⟩, ?_⟩
            simp [intOf]; omega
          · rw [decide_eq_false hk2] at T2
            have HKK := hide hk
            have HK2 := hide hk2
            clear hk hk2
            go_wp2_with fail
            go_quiet (first | (go_at_call 22; with_reducible exact Calls.quiet_of (unhide T1 _)) | (go_at_call 22; with_reducible exact Calls.quiet_of (unhide T2 _)))
            go_wp2
            go_ret
            exact ⟨by rw [unhide HM (fun e => unhide HK2 (Prod.mk.inj e).2)]; rfl, (unhide HK).drewN nq⟩
        · rw [decide_eq_false hk] at T1
          have HKK := hide hk
          clear hk
          go_wp2_with fail
          go_quiet (first | (go_at_call 22; with_reducible exact Calls.quiet_of (unhide T1 _)) | (go_at_call 22; with_reducible exact Calls.quiet_of (unhide T2 _)))
          go_wp2
          go_ret
          exact ⟨by rw [unhide HM (fun e => unhide HKK (Prod.mk.inj e).1)]; rfl, (unhide HK).drewN nq⟩
      · have hlt' : ¬ (i : Int) < ps.length := by omega
        have hie : i = ps.length := by omega
        subst hie
        have HE := hide (decide_eq_true (by have h9 := unhide HA; rw [List.take_length, unhide HL, List.take_length] at h9; exact h9 : ps = qs))
        go_wp2
        go_ret
        exact ⟨by rw [unhide HE]; rfl, unhide HK⟩
  · have hb : ((ps.length : Int) != (qs.length : Int)) = true := by rw [bne_iff_ne]; omega
    have HE := hide (decide_eq_false (fun e => hl (by rw [e]) : ¬ ps = qs))
    clear hl
    go_wp2
    go_ret
    exact ⟨by rw [unhide HE]; rfl, Kept.refl _ _⟩

end Go.Proofs.YtbbjbpjpejekgaaDoor
