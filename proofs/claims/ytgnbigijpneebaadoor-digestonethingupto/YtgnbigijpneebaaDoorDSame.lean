import Derived.Test.YtgnbigijpneebaaDoorDInj
import Derived.Laws.StructEq
namespace Go.Proofs.YtgnbigijpneebaaDoor
open Go.RowKit Go.BigFrame
set_option linter.unusedVariables false
set_option linter.unusedSimpArgs false

theorem wpList_load_midG {P : Program} {ops : Array Oper} {rest : List Oper} {op : Oper} {a : Act} {w : World} {Q : Exit → Act → World → Prop} (hw : Region.wanted op (yielded ops a.tmps) = true) (ty : TypeId) (x : Operand) (ho : op.op = .load ty x)
    (b o : Nat) (hx : a.eval x = .pointer (some ⟨b, o, none⟩)) (cs : List Value) (d : TypeDesc) (hc : w.rangeAt b o cs)
    (hu : P.underlying ty = some d) (hd : d.isRow = true) (hi : (P.info? ty).map (·.size) = some cs.length)
    (h : wpList P ops Q rest (a.put op.dst (.agg cs.toArray)) w) : wpList P ops Q (op :: rest) a w :=
  wpList_want hw fun _ hK => wp_load_mid ty x ho b o hx cs d hc hu hd hi (hK _ _ h)
theorem wpQuiet_mid {P : Program} {ops : Array Oper} {C : World → Prop} {Q : Act → Prop} {a : Act} {o : Oper} {rest : List Oper} (hw : Region.wanted o (yielded ops a.tmps) = true) (ty : TypeId) (x : Operand) (ho : o.op = .load ty x)
    (b off : Nat) (hx : a.eval x = .pointer (some ⟨b, off, none⟩)) (cs : List Value) (d : TypeDesc) (hg : ∀ w, C w → w.rangeAt b off cs)
    (hu : P.underlying ty = some d) (hd : d.isRow = true) (hi : (P.info? ty).map (·.size) = some cs.length)
    (h : wpQuiet P ops C Q rest (a.put o.dst (.agg cs.toArray))) : wpQuiet P ops C Q (o :: rest) a := by
  refine wpQuiet_want hw fun K hK => ⟨.agg cs.toArray, fun w hw => ?_, hK _ h⟩
  unfold Oper.quietAt execOp
  simp only [ho]
  have := run_loadVar_mid (P := P) w b off ty cs d (hg w hw) hu hd hi
  simp only [hx, Instr.loadAt, Instr.sureAddr, Sem.run_bind, Sem.run_pure, Result.andThen_ok, this, Oper.quietUpon, and_self]
theorem dig_eqd (d : Nat) (w : World) (a b : List Nat) (ha : a.length = 32) (hb : b.length = 32) : (Op.equalIn (d + 2) 26 (.agg (brow a)) (.agg (brow b))).run Tryd.prog w = .ok (decide (a = b)) w := by
  obtain ⟨i, hi, _⟩ := Option.map_eq_some_iff.1 Tryd.info5
  rw [run_equalIn_array w (d + 1) _ _ Tryd.underlying26 hi, List.range_eq_range', show Tryd.prog.cellsOf 5 = 1 from by kernel_rfl]
  exact eqItems_dig Tryd.prog w (by unfold Program.plainKey; rw [Tryd.underlying5]) Tryd.underlying5 d a b 32 ha hb 32 0 rfl

theorem Tryd.infoDig : (Tryd.prog.info? 26).map (·.size) = some 32 := by kernel_rfl
theorem part_dig (w : World) (xs : Array Value) (off : Nat) : (part 26 xs off).run Tryd.prog w = .ok (.agg (xs.extract off (off + 32))) w := by
  obtain ⟨i, hi, hs⟩ := Option.map_eq_some_iff.1 Tryd.infoDig
  have hc : Tryd.prog.cellsOf 26 = 32 := by kernel_rfl
  simp [part, isAgg, run_underlying Tryd.underlying26, run_sizeOf w hi, hs]
theorem root_parts (s : Nat) (l m : List Nat) (hl : l.length = 32) (hm : m.length = 32) : (rootC s l m).toArray[0]? = some (.int .u64 (s : Int)) ∧ (rootC s l m).toArray.extract 1 (1 + 32) = brow l ∧ (rootC s l m).toArray.extract 33 (33 + 32) = brow m := by
  refine ⟨rfl, ?_, ?_⟩
  · unfold rootC brow
    apply Array.toList_inj.1
    rw [Array.toList_extract]
    simp [List.extract, hl]
  · unfold rootC brow
    apply Array.toList_inj.1
    rw [Array.toList_extract]
    simp [List.extract, hl]
    rw [List.take_of_length_le (by simp [hm])]
theorem Tryd.rootFields : (Tryd.prog.fieldsOf 32).toList.map (fun f => (f.name, f.type, f.offset)) = [("Size", 30, 0), ("Log", 26, 1), ("Map", 26, 33)] := by kernel_rfl
theorem eqFields_three (d : Nat) (xs ys : Array Value) (fs : List Field) (n1 n2 n3 : String) (t1 t2 t3 : TypeId) (o1 o2 o3 : Nat) (h : fs.map (fun f => (f.name, f.type, f.offset)) = [(n1, t1, o1), (n2, t2, o2), (n3, t3, o3)]) : ∃ f1 f2 f3, fs = [f1, f2, f3] ∧ (f1.name = n1 ∧ f1.type = t1 ∧ f1.offset = o1) ∧ (f2.name = n2 ∧ f2.type = t2 ∧ f2.offset = o2) ∧ (f3.name = n3 ∧ f3.type = t3 ∧ f3.offset = o3) := by
  match fs, h with
  | [f1, f2, f3], h =>
    simp at h
    exact ⟨f1, f2, f3, rfl, h.1, h.2.1, h.2.2⟩
theorem root_eq (w : World) (s s' : Nat) (l m l' m' : List Nat) (hl : l.length = 32) (hm : m.length = 32) (hl' : l'.length = 32) (hm' : m'.length = 32) :
    (Op.equalIn 10000 32 (.agg (rootC s l m).toArray) (.agg (rootC s' l' m').toArray)).run Tryd.prog w = .ok (decide (s = s' ∧ l = l' ∧ m = m')) w := by
  obtain ⟨p0, p1, p2⟩ := root_parts s l m hl hm
  obtain ⟨q0, q1, q2⟩ := root_parts s' l' m' hl' hm'
  rw [run_equalIn_struct w 9999 32 _ _ (by kernel_rfl) (by kernel_rfl)]
  obtain ⟨f1, f2, f3, hf, ⟨a1, a2, a3⟩, ⟨b1, b2, b3⟩, ⟨c1, c2, c3⟩⟩ := eqFields_three 9999 #[] #[] _ _ _ _ _ _ _ _ _ _ Tryd.rootFields
  rw [hf]
  simp only [Op.eqFields, a1, a2, a3, b1, b2, b3, c1, c2, c3]
  rw [if_pos (by decide), if_pos (by decide), if_pos (by decide)]
  have hpl : Tryd.prog.plainKey 30 = true := by kernel_rfl
  simp only [Sem.run_bind, run_part_plain w hpl p0, run_part_plain w hpl q0, Result.andThen_ok, part_dig, p1, p2, q1, q2]
  rw [run_equalIn_int w 9998 30 _ _ _ _ Tryd.underlying30, Result.andThen_ok]
  by_cases hs : s = s'
  · have e1 : ((s : Int) == (s' : Int)) = true := by rw [hs]; simp
    rw [e1]
    simp only [Bool.not_true, Bool.false_eq_true, if_false, Sem.run_bind, part_dig, p1, p2, q1, q2, Result.andThen_ok]
    rw [dig_eqd 9997 w l l' hl hl', Result.andThen_ok]
    by_cases h2 : l = l'
    · rw [decide_eq_true h2]
      simp only [Bool.not_true, Bool.false_eq_true, if_false, Sem.run_bind, part_dig, p1, p2, q1, q2, Result.andThen_ok]
      rw [dig_eqd 9997 w m m' hm hm', Result.andThen_ok]
      by_cases h3 : m = m'
      · rw [decide_eq_true h3]; simp [hs, h2, h3]
      · rw [decide_eq_false h3]; simp [hs, h2, h3]
    · rw [decide_eq_false h2]; simp [hs, h2]
  · have e1 : ((s : Int) == (s' : Int)) = false := by rw [beq_eq_false_iff_ne]; omega
    rw [e1]; simp [hs]

theorem take_same {α : Type} (a b : List α) (i : Nat) (ha : i < a.length) (hb : i < b.length) (h : a.take i = b.take i) (x : a[i] = b[i]) : a.take (i + 1) = b.take (i + 1) := by
  rw [List.take_succ_eq_append_getElem ha, List.take_succ_eq_append_getElem hb, h, x]

set_option maxRecDepth 100000 in
set_option maxHeartbeats 1000000 in
theorem sameKids_any (u v : Value) (ds es : List (List Nat)) (w : World) (hu : RdD w u ds) (hv : RdD w v es) :
    Calls Tryd.prog 66 #[u, v] w fun e w' => e = .returned (.bool (decide (ds = es))) ∧ Kept [] w w' := by
  obtain ⟨ao, len, cap, rfl, h1, h2, h3, h4, h5⟩ := hu
  obtain ⟨ao', len', cap', rfl, g1, g2, g3, g4, g5⟩ := hv
  have H4 := hide h4
  have H5 := hide h5
  have G4 := hide g4
  have G5 := hide g5
  clear h4 h5 g4 g5
  subst h1
  subst g1
  go_enter Tryd.func66, Tryd.ntmps66
  by_cases hl : ds.length = es.length
  · have hb : ((ds.length : Int) != (es.length : Int)) = false := by rw [hl]; simp
    have HL := hide hl
    clear hl
    go_wp2_with fail
    go_loopw [13] (fun t12 wr => ∃ (i : Nat), i ≤ ds.length ∧ t12 = .int .i64 i ∧ Hid (ds.take i = es.take i) ∧ Hid (Kept [] w wr)) (fun t _ => ds.length - (intOf t).toNat)
    case atStart => exact ⟨0, Nat.zero_le _, rfl, hide (by simp), hide (Kept.refl _ _)⟩
    case round =>
      obtain ⟨i, hi, rfl, HA, HK⟩ := hrel
      by_cases hlt : i < ds.length
      · have hlt' : (i : Int) < ds.length := by omega
        have hle : i < es.length := by rw [← unhide HL]; exact hlt
        have hle' : (i : Int) < es.length := by omega
        obtain ⟨b, o, rfl, hcell⟩ := unhide H5 (by omega)
        obtain ⟨b', o', rfl, gcell⟩ := unhide G5 (by omega)
        have HD := hide (unhide H4 (ds.getD i []) (by rw [List.getD_eq_getElem?_getD, List.getElem?_eq_getElem hlt]; exact List.getElem_mem hlt))
        have HRG := hide (fun j v hv => (unhide HK).cell (hcell i hlt j v hv) (by simp) : wr.rangeAt b (o + i * 32) ((ds.getD i []).map u8))
        have GD := hide (unhide G4 (es.getD i []) (by rw [List.getD_eq_getElem?_getD, List.getElem?_eq_getElem hle]; exact List.getElem_mem hle))
        have GRG := hide (fun j v hv => (unhide HK).cell (gcell i hle j v hv) (by simp) : wr.rangeAt b' (o' + i * 32) ((es.getD i []).map u8))
        have e1 : ds.getD i [] = ds[i] := by rw [List.getD_eq_getElem?_getD, List.getElem?_eq_getElem hlt]; rfl
        have e2 : es.getD i [] = es[i] := by rw [List.getD_eq_getElem?_getD, List.getElem?_eq_getElem hle]; rfl
        have HN := hide (fun (h : ds.getD i [] = es.getD i []) => take_same ds es i hlt hle (unhide HA) (by rw [← e1, ← e2]; exact h))
        have HM := hide (fun (h : ¬ ds.getD i [] = es.getD i []) => decide_eq_false (fun e => h (by rw [e]) : ¬ ds = es))
        clear hcell gcell e1 e2
        obtain ⟨d, hd⟩ : ∃ d, ds.getD i [] = d := ⟨_, rfl⟩
        obtain ⟨d', hd'⟩ : ∃ d, es.getD i [] = d := ⟨_, rfl⟩
        rw [hd] at HD HRG HN HM
        rw [hd'] at GD GRG HN HM
        clear hd hd'
        have hdl := (unhide HD).1
        have hdl' := (unhide GD).1
        have HS1 := hide (by rw [List.length_map, hdl]; exact Tryd.size_dig : (Tryd.prog.info? 26).map (·.size) = some (d.map u8).length)
        have HS2 := hide (by rw [List.length_map, hdl']; exact Tryd.size_dig : (Tryd.prog.info? 26).map (·.size) = some (d'.map u8).length)
        have hqd : ∀ W, (Op.equalIn 10000 26 (.agg (d.map u8).toArray) (.agg (d'.map u8).toArray)).run Tryd.prog W = .ok (decide (d = d')) W := fun W => dig_eq W d d' hdl hdl'
        by_cases hdd : d = d'
        · rw [decide_eq_true hdd] at hqd
          have HDD := hide hdd
          clear hdd
          have hne : ∀ p : Prop, (∀ w', Kept [] wr w' → p) = p := fun p => propext ⟨fun h => h wr (Kept.refl [] wr), fun h _ _ => h⟩
          go_wp2_with fail
          refine wp_region_keep (by kernel_rfl) (by kernel_rfl) ?_
          iterate 3 (go_big_quiet_step (fail))
          refine wpQuiet_mid rfl 26 _ rfl b (o + i * 32) rfl (d.map u8) _ (fun w' hw' => range_kept (unhide HRG) hw' (by simp)) Tryd.underlying26 rfl (unhide HS1) ?_
          simp only [Act.put, List.setIfInBounds_toArray, List.set_cons_succ, List.set_cons_zero]
          iterate 3 (go_big_quiet_step (fail))
          refine wpQuiet_mid rfl 26 _ rfl b' (o' + i * 32) rfl (d'.map u8) _ (fun w' hw' => range_kept (unhide GRG) hw' (by simp)) Tryd.underlying26 rfl (unhide HS2) ?_
          simp only [Act.put, List.setIfInBounds_toArray, List.set_cons_succ, List.set_cons_zero]
          refine wpQuiet_val rfl (.bool false) (fun w' _ => run_neq 26 _ _ _ rfl (d.map u8).toArray (d'.map u8).toArray rfl rfl w' true (by kernel_rfl) (hqd w')) ?_
          simp only [Act.put, List.setIfInBounds_toArray, List.set_cons_succ, List.set_cons_zero]
          refine wpQuiet_nil ?_
          intro w6 hw6
          have HK6 := hide ((unhide HK).trans hw6 (by simp))
          clear hw6 hne hqd
          go_wp2
          refine ⟨⟨i + 1, by omega, by go_num, hide (unhide HN (unhide HDD)), HK6⟩, ?_⟩
          simp [intOf]; omega
        · rw [decide_eq_false hdd] at hqd
          have HDD := hide hdd
          clear hdd
          have hne : ∀ p : Prop, (∀ w', Kept [] wr w' → p) = p := fun p => propext ⟨fun h => h wr (Kept.refl [] wr), fun h _ _ => h⟩
          go_wp2_with fail
          refine wp_region_keep (by kernel_rfl) (by kernel_rfl) ?_
          iterate 3 (go_big_quiet_step (fail))
          refine wpQuiet_mid rfl 26 _ rfl b (o + i * 32) rfl (d.map u8) _ (fun w' hw' => range_kept (unhide HRG) hw' (by simp)) Tryd.underlying26 rfl (unhide HS1) ?_
          simp only [Act.put, List.setIfInBounds_toArray, List.set_cons_succ, List.set_cons_zero]
          iterate 3 (go_big_quiet_step (fail))
          refine wpQuiet_mid rfl 26 _ rfl b' (o' + i * 32) rfl (d'.map u8) _ (fun w' hw' => range_kept (unhide GRG) hw' (by simp)) Tryd.underlying26 rfl (unhide HS2) ?_
          simp only [Act.put, List.setIfInBounds_toArray, List.set_cons_succ, List.set_cons_zero]
          refine wpQuiet_val rfl (.bool true) (fun w' _ => run_neq 26 _ _ _ rfl (d.map u8).toArray (d'.map u8).toArray rfl rfl w' false (by kernel_rfl) (hqd w')) ?_
          simp only [Act.put, List.setIfInBounds_toArray, List.set_cons_succ, List.set_cons_zero]
          refine wpQuiet_nil ?_
          intro w6 hw6
          have HK6 := hide ((unhide HK).trans hw6 (by simp))
          clear hw6 hne hqd
          go_wp2
          go_ret
          exact ⟨by rw [unhide HM (unhide HDD)]; rfl, unhide HK6⟩
      · have hlt' : ¬ (i : Int) < ds.length := by omega
        have hie : i = ds.length := by omega
        subst hie
        have HE := hide (decide_eq_true (by have h9 := unhide HA; rw [List.take_length, unhide HL, List.take_length] at h9; exact h9 : ds = es))
        go_wp2
        go_ret
        exact ⟨by rw [unhide HE]; rfl, unhide HK⟩
  · have hb : ((ds.length : Int) != (es.length : Int)) = true := by rw [bne_iff_ne]; omega
    have HE := hide (decide_eq_false (fun e => hl (by rw [e]) : ¬ ds = es))
    clear hl
    go_wp2
    go_ret
    exact ⟨by rw [unhide HE]; rfl, Kept.refl _ _⟩

set_option maxRecDepth 100000 in
set_option maxHeartbeats 1000000 in
theorem samePairs_any (u v : Value) (ps qs : List (List Nat × List Nat)) (w : World) (hu : RdK w u ps) (hv : RdK w v qs) :
    Calls Tryd.prog 65 #[u, v] w fun e w' => e = .returned (.bool (decide (ps = qs))) ∧ Kept [] w w' := by
  obtain ⟨ao, len, cap, vs, us, rfl, h1, h2, h3, h4, h5⟩ := hu
  obtain ⟨ao', len', cap', vs', us', rfl, g1, g2, g3, g4, g5⟩ := hv
  have H4 := hide h4
  have H5 := hide h5
  have G4 := hide g4
  have G5 := hide g5
  clear h4 h5 g4 g5
  subst h1
  subst g1
  go_enter Tryd.func65, Tryd.ntmps65
  by_cases hl : ps.length = qs.length
  · have hb : ((ps.length : Int) != (qs.length : Int)) = false := by rw [hl]; simp
    have HL := hide hl
    clear hl
    go_wp2_with fail
    go_loopw [13] (fun t12 wr => ∃ (i : Nat), i ≤ ps.length ∧ t12 = .int .i64 i ∧ Hid (ps.take i = qs.take i) ∧ Hid (Kept [] w wr)) (fun t _ => ps.length - (intOf t).toNat)
    case atStart => exact ⟨0, Nat.zero_le _, rfl, hide (by simp), hide (Kept.refl _ _)⟩
    case round =>
      obtain ⟨i, hi, rfl, HA, HK⟩ := hrel
      by_cases hlt : i < ps.length
      · have hlt' : (i : Int) < ps.length := by omega
        have hle : i < qs.length := by rw [← unhide HL]; exact hlt
        have hle' : (i : Int) < qs.length := by omega
        obtain ⟨b, o, rfl, hcell⟩ := unhide H5 (by omega)
        obtain ⟨b', o', rfl, gcell⟩ := unhide G5 (by omega)
        have p1 := (unhide HK).cell (hcell i hlt).1 (by simp)
        have p2 := (unhide HK).cell (hcell i hlt).2 (by simp)
        have q1 := (unhide HK).cell (gcell i hle).1 (by simp)
        have q2 := (unhide HK).cell (gcell i hle).2 (by simp)
        have HP := hide (unhide H4 i hlt)
        have HQ := hide (unhide G4 i hle)
        have e1 : ps.getD i ([], []) = ps[i] := by rw [List.getD_eq_getElem?_getD, List.getElem?_eq_getElem hlt]; rfl
        have e2 : qs.getD i ([], []) = qs[i] := by rw [List.getD_eq_getElem?_getD, List.getElem?_eq_getElem hle]; rfl
        have HN := hide (fun (h : ps.getD i ([], []) = qs.getD i ([], [])) => take_same ps qs i hlt hle (unhide HA) (by rw [← e1, ← e2]; exact h))
        have HM := hide (fun (h : ¬ ps.getD i ([], []) = qs.getD i ([], [])) => decide_eq_false (fun e => h (by rw [e]) : ¬ ps = qs))
        clear hcell gcell e1 e2
        generalize ps.getD i ([], []) = x at HP HN HM
        generalize qs.getD i ([], []) = y at HQ HN HM
        generalize vs.getD i undef = va at p1 HP
        generalize us.getD i undef = vb at p2 HP
        generalize vs'.getD i undef = vc at q1 HQ
        generalize us'.getD i undef = vd at q2 HQ
        obtain ⟨xk, xv⟩ := x
        obtain ⟨yk, yv⟩ := y
        simp only at HP HQ
        have T1 : Hid (∀ n, Calls Tryd.prog 13 #[va, vc] (wr.drewN n) fun e w' => e = .returned (.bool (decide (xk = yk))) ∧ ∃ m, w' = (wr.drewN n).drewN m) := hide fun n => same_any _ _ xk yk _ ((unhide HP).1.old ((unhide HK).drewN n) (by simp)) ((unhide HQ).1.old ((unhide HK).drewN n) (by simp))
        have T2 : Hid (∀ n, Calls Tryd.prog 13 #[vb, vd] (wr.drewN n) fun e w' => e = .returned (.bool (decide (xv = yv))) ∧ ∃ m, w' = (wr.drewN n).drewN m) := hide fun n => same_any _ _ xv yv _ ((unhide HP).2.old ((unhide HK).drewN n) (by simp)) ((unhide HQ).2.old ((unhide HK).drewN n) (by simp))
        by_cases hk : xk = yk
        · rw [decide_eq_true hk] at T1
          by_cases hk2 : xv = yv
          · rw [decide_eq_true hk2] at T2
            have HKK := hide hk
            have HK2 := hide hk2
            clear hk hk2
            go_wp2_with fail
            go_quiet (first | (go_at_call 13; with_reducible exact Calls.quiet_of (unhide T1 _)) | (go_at_call 13; with_reducible exact Calls.quiet_of (unhide T2 _)))
            go_wp2
            refine ⟨⟨i + 1, by omega, by go_num, hide (unhide HN (by rw [unhide HKK, unhide HK2])), hide ((unhide HK).drewN nq)⟩, ?_⟩
            simp [intOf]; omega
          · rw [decide_eq_false hk2] at T2
            have HKK := hide hk
            have HK2 := hide hk2
            clear hk hk2
            go_wp2_with fail
            go_quiet (first | (go_at_call 13; with_reducible exact Calls.quiet_of (unhide T1 _)) | (go_at_call 13; with_reducible exact Calls.quiet_of (unhide T2 _)))
            go_wp2
            go_ret
            exact ⟨by rw [unhide HM (fun e => unhide HK2 (Prod.mk.inj e).2)]; rfl, (unhide HK).drewN nq⟩
        · rw [decide_eq_false hk] at T1
          have HKK := hide hk
          clear hk
          go_wp2_with fail
          go_quiet (first | (go_at_call 13; with_reducible exact Calls.quiet_of (unhide T1 _)) | (go_at_call 13; with_reducible exact Calls.quiet_of (unhide T2 _)))
          go_wp2
          go_ret
          exact ⟨by rw [unhide HM (fun e => unhide HKK (Prod.mk.inj e).1)]; rfl, (unhide HK).drewN nq⟩
      · have hlt' : ¬ (i : Int) < ps.length := by omega
        have hie : i = ps.length := by omega
        subst hie
        have HE := hide (decide_eq_true (by have h9 := unhide HA; rw [List.take_length, unhide HL, List.take_length] at h9; exact h9 : ps = qs))
        go_wp2
        go_ret
        exact ⟨by rw [unhide HE]; rfl, unhide HK⟩
  · have hb : ((ps.length : Int) != (qs.length : Int)) = true := by rw [bne_iff_ne]; omega
    have HE := hide (decide_eq_false (fun e => hl (by rw [e]) : ¬ ps = qs))
    clear hl
    go_wp2
    go_ret
    exact ⟨by rw [unhide HE]; rfl, Kept.refl _ _⟩

end Go.Proofs.YtgnbigijpneebaaDoor
