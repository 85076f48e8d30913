import Derived.Test.YtfajlfcomhjnkaaDoorTopA
import Derived.Test.YtfajlfcomhjnkaaDoorTopB
import Derived.Test.YtfajlfcomhjnkaaDoorRowz
import Derived.Deep.RegionHeld3
import Derived.Test.YtfajlfcomhjnkaaDoorQKeep
import Derived.Deep.MidRow
namespace Go.Proofs.YtfajlfcomhjnkaaDoor
open Go.RowKit Go.BigFrame
set_option linter.unusedVariables false
set_option linter.unusedSimpArgs false

theorem wpQuiet_midT {P : Program} {ops : Array Oper} {C : World → Prop} {Q : Act → Prop} {a : Act} {o : Oper} {rest : List Oper} (hw : Region.wanted o (yielded ops a.tmps) = true) (ty : TypeId) (x : Operand) (ho : o.op = .load ty x)
    (b off : Nat) (hx : a.eval x = .pointer (some ⟨b, off, none⟩)) (cs : List Value) (d : TypeDesc) (hg : ∀ w, C w → w.rangeAt b off cs)
    (hu : P.underlying ty = some d) (hd : d.isRow = true) (hi : (P.info? ty).map (·.size) = some cs.length)
    (h : wpQuiet P ops C Q rest (a.put o.dst (.agg cs.toArray))) : wpQuiet P ops C Q (o :: rest) a := by
  refine wpQuiet_want hw fun K hK => ⟨.agg cs.toArray, fun w hw => ?_, hK _ h⟩
  unfold Oper.quietAt execOp
  simp only [ho]
  have := run_loadVar_mid (P := P) w b off ty cs d (hg w hw) hu hd hi
  simp only [hx, Instr.loadAt, Instr.sureAddr, Sem.run_bind, Sem.run_pure, Result.andThen_ok, this, Oper.quietUpon, and_self]
theorem shr_run (P : Program) (n m : Nat) (hm : m < 64) (W : World) : (Op.shift .shr .u64 (n : Int) .i64 (m : Int)).run P W = .ok (.int .u64 ((n / 2 ^ m : Nat) : Int)) W := by
  unfold Op.shift
  have hmin : min (m : Int).toNat IntKind.u64.bits = m := by simp [IntKind.bits]; omega
  rw [if_neg (by omega), hmin]
  have e : (n : Int).fdiv (2 ^ m) = ((n / 2 ^ m : Nat) : Int) := by
    have h2 : ((2 : Int) ^ m) = ((2 ^ m : Nat) : Int) := by simp
    rw [h2, Int.fdiv_eq_ediv_of_nonneg _ (Int.natCast_nonneg _)]
    rfl
  simp only [e]
  rfl
theorem run_shr {P : Program} {o : Oper} {a : Act} (t t2 : TypeId) (x y : Operand) (ho : o.op = .binOp .shr t x y t2) (n m : Nat) (hm : m < 64) (hx : a.eval x = .int .u64 (n : Int)) (hy : a.eval y = .int .i64 (m : Int)) (W : World) : (execOp a.eval o).run P W = .ok (.value (.int .u64 ((n / 2 ^ m : Nat) : Int))) W := by
  unfold execOp
  simp only [ho, hx, hy, eqGuard_shr, binOp_shr, Sem.run_bind, Sem.run_pure, Result.andThen_ok, shr_run P n m hm]
theorem rangeK {w : World} {ps A B : List Pk} {p : Pk} {b off : Nat} (hc : ∀ j u, (cellsK ps)[j]? = some u → w.cell? ⟨b, off + j, none⟩ = some u) (hps : ps = A ++ p :: B) (hl : (cellsK A).length = A.length * 33) : w.rangeAt b (off + A.length * 33) (partC p.s p.k) := by
  intro j u hj
  have e : cellsK ps = cellsK A ++ (partC p.s p.k ++ cellsK B) := by
    rw [hps, cellsK_app]; simp [cellsK]
  have hjl := (List.getElem?_eq_some_iff.1 hj).1
  have h9 := hc (A.length * 33 + j) u (by rw [e, List.getElem?_append_right (by omega), hl, Nat.add_sub_cancel_left, List.getElem?_append_left hjl]; exact hj)
  rw [Nat.add_assoc]; exact h9

set_option maxRecDepth 100000 in
set_option maxHeartbeats 400000 in
theorem keptT_any (z : Int) (t : Nat) (v : Value) (ps : List Pk) (lo h : Nat) (w : World) (hT : TreeAt z w t v ps) (hlo : lo + 2 ^ h ≤ (leavesK ps).length) (hd : 2 ^ h ∣ lo) (hb : (leavesK ps).length < 32768) :
    Calls Tryd.prog 36 #[.pointer (some ⟨t, 0, none⟩), .int .u64 lo, .int .i64 h] w fun e w' => e = .returned (.agg (brow (perT z h (((leavesK ps).drop lo).take (2 ^ h))))) ∧ Kept [] w w' := by
  obtain ⟨n, hn⟩ : ∃ n, (leavesK ps).length = n := ⟨_, rfl⟩
  have hp0 : 1 ≤ 2 ^ h := Nat.one_le_two_pow
  obtain ⟨A, p, B, hps, hbl, hoc, hla, hk12, hhk⟩ := peak_at hT.pk (lo := lo) (n := n) hn.symm (by omega) (by omega)
  rw [hn] at hlo hb
  have hhk2 := hhk h hd hlo
  clear hhk
  have hxr : (lo ^^^ n) < 32768 := by
    have := Nat.xor_lt_two_pow (x := lo) (y := n) (n := 15) (by omega) (by omega)
    simpa using this
  have hX : bits BinOp.xor IntKind.u64 (lo : Int) (n : Int) = ((lo ^^^ n : Nat) : Int) := by
    have h1 : (BitVec.ofInt 64 (lo : Int)).toNat = lo := by rw [BitVec.ofInt_natCast, BitVec.toNat_ofNat]; exact Nat.mod_eq_of_lt (by omega)
    have h2 : (BitVec.ofInt 64 (n : Int)).toNat = n := by rw [BitVec.ofInt_natCast, BitVec.toNat_ofNat]; exact Nat.mod_eq_of_lt (by omega)
    show IntKind.u64.wrap ((BitVec.ofInt 64 (lo : Int) ^^^ BitVec.ofInt 64 (n : Int)).toNat : Int) = _
    rw [BitVec.toNat_xor, h1, h2]
    simp [IntKind.wrap, IntKind.signed, IntKind.bits]
    omega
  have hrow := hT.row
  rw [hn] at hrow
  have c0 := cell_of_row _ _ 1 _ _ _ hrow
  have c2 := cell_of_row _ _ 2 _ _ _ hrow
  simp at c0 c2
  have kX := (Kept.refl [] w).alloc (.cells (zb 32) 36)
  have cX1 := kX.cell c0 (by simp)
  have cX2 := kX.cell c2 (by simp)
  rw [← zb32] at cX1 cX2
  have HZX := hide (heap_alloc_new w (.cells (zb 32) 36))
  have HTT := hide hT
  have HKX := hide kX
  obtain ⟨D, hD⟩ : ∃ D, perT z h (((leavesK ps).drop lo).take (2 ^ h)) = D := ⟨_, rfl⟩
  rw [hD]
  have HD := hide hD
  clear hD
  have HPS := hide hps
  have HLA := hide hla
  have HLO := hide hlo
  have HDV := hide hd
  have HBL := hide hbl
  have HOC := hide hoc
  have HHN := hide hn
  have hh12 : h < 15 := by
    rcases Nat.lt_or_ge h 15 with h9 | h9
    · exact h9
    · have : 2 ^ 15 ≤ 2 ^ h := Nat.pow_le_pow_right (by omega) h9
      omega
  have hlon : lo < n := by omega
  obtain ⟨x, hx⟩ : ∃ x, lo ^^^ n = x := ⟨_, rfl⟩
  rw [hx] at hX hxr HBL
  clear c0 c2 hT hrow hps hla hlo hd hbl hoc hn hp0 hx
  go_enter Tryd.func36, Tryd.ntmps36
  go_wp2_with (simp only [hX])
  refine Calls.mono (len64_any x _ (by omega)) ?_
  rintro e w1 ⟨rfl, k1⟩
  rw [unhide HBL, zb32] at *
  have HK1 := hide ((unhide HKX).trans k1 (by simp))
  have HZ1 := hide (k1.heap (unhide HZX) (by simp))
  have d1 := k1.cell cX1 (by simp)
  have d2 := k1.cell cX2 (by simp)
  clear k1 cX1 cX2 HKX HZX
  obtain ⟨k, hk⟩ : ∃ k, p.h = k := ⟨_, rfl⟩
  rw [hk] at hk12 hhk2 ⊢
  have hk1 : ((k + 1 : Nat) : Int) = (k : Int) + 1 := by omega
  rw [hk1]
  go_wp2_with fail
  obtain ⟨va, vc, hve, hvl, hvc, hvr⟩ := (unhide HTT).rd
  have hAl : A.length < ps.length := by rw [unhide HPS]; simp
  obtain ⟨b, off, rfl, hcell⟩ := hvr (by omega)
  subst hve
  have hA33 : (cellsK A).length = A.length * 33 := cellsK_len' (fun q hq => ((unhide HTT).pk.ok q (by rw [unhide HPS]; simp [hq])).dg.1)
  have HRG := hide (fun j u hj => (unhide HK1).cell (rangeK hcell (unhide HPS) hA33 j u hj) (by simp) : w1.rangeAt b (off + A.length * 33) (partC p.s p.k))
  have hpA := (unhide HTT).pk.ok p (by rw [unhide HPS]; simp)
  have HPA := hide (by have h9 := hpA; rw [leaves_peak (B := B) (unhide HLA) hpA.len, ← unhide HPS] at h9; exact h9 : PA z w p.h p.s p.k (subL (leavesK ps) lo p.h))
  rw [hk] at HPA
  have hs32 := hpA.dg.1
  have HON := hide (all_one (partC_one (s := p.s) hpA.one))
  have HOCn := hide (unhide HOC)
  rw [hk] at HOCn
  obtain ⟨na, hna⟩ : ∃ na, A.length = na := ⟨_, rfl⟩
  obtain ⟨np, hnp⟩ : ∃ np, ps.length = np := ⟨_, rfl⟩
  rw [hna] at hAl HRG HOCn
  rw [hnp] at hAl hvl d2
  have hnb : n / 2 ^ (k + 1) < 32768 := Nat.lt_of_le_of_lt (Nat.div_le_self _ _) hb
  have HON2 := hide (fun (W : World) => ones64_any (n / 2 ^ (k + 1)) W hnb)
  rw [unhide HOCn] at HON2
  obtain ⟨nd, hnd⟩ : ∃ nd, n / 2 ^ (k + 1) = nd := ⟨_, rfl⟩
  have HND := hide hnd
  rw [hnd] at HON2
  have hnp2 : np ≤ 32768 := by
    have h8 := len_le_sum (ps.reverse.map (·.h)); rw [← leavesK_len (unhide HTT).pk.ok, unhide HHN] at h8; simp at h8; omega
  have ia : ¬ (na : Int) < 0 := by omega
  have ib : ¬ (np : Int) ≤ na := by omega
  have hkw : IntKind.i64.wrap ((k : Int) + 1) = (k : Int) + 1 := by simp [IntKind.wrap, IntKind.signed, IntKind.bits]; omega
  clear hcell hpA hnd hna hnp hA33 hnb
  refine wp_ke16 (by kernel_rfl) (by kernel_rfl) (by kernel_rfl) (by kernel_rfl) (by kernel_rfl) (by kernel_rfl) (by kernel_rfl) (by kernel_rfl) (by kernel_rfl) (by kernel_rfl) (by kernel_rfl) (by kernel_rfl) (by kernel_rfl) (by kernel_rfl) (by kernel_rfl) (by kernel_rfl) (by kernel_rfl) (by kernel_rfl) (by kernel_rfl) (by kernel_rfl) (by kernel_rfl) (by kernel_rfl) (by kernel_rfl) (by kernel_rfl) (by kernel_rfl) (by kernel_rfl) (by kernel_rfl) (by kernel_rfl) (by kernel_rfl) (by kernel_rfl) (by kernel_rfl) (by kernel_rfl) (by kernel_rfl) (by kernel_rfl) (by kernel_rfl) (by kernel_rfl) (by kernel_rfl) rfl rfl rfl (by simp) (by simp) (by simp)
    (.pointer (some ⟨t, 0, none⟩)) (.pointer (some ⟨t, 0, none⟩)) (.pointer (some ⟨t, 2, none⟩)) (.slice (some ⟨b, off, none⟩) np vc) (.pointer (some ⟨t, 0, none⟩)) (.pointer (some ⟨t, 0, none⟩)) (.pointer (some ⟨t, 1, none⟩)) (.int .u64 (n : Int)) (.int .i64 (k : Int)) (.int .i64 ((k : Int) + 1)) (.int .u64 (nd : Int)) _ _ _ _ _ _ _ _ _ _ _
    (fun w' => Kept [] w1 w')
    (fun w' => Kept [] w1 w')
    (fun u w' => u = .int .i64 (na : Int) ∧ Kept [] w1 w')
    (fun y w' => (∃ gp, y = .pointer (some ⟨gp, 0, none⟩) ∧ w1.heap.size ≤ gp ∧ w'.heap[gp]? = some (.cells zP 76 (0, 0))) ∧ Kept [] w1 w')
    (fun u y w' => u = .int .i64 (na : Int) ∧ (∃ gp, y = .pointer (some ⟨gp, 0, none⟩) ∧ w1.heap.size ≤ gp ∧ w'.heap[gp]? = some (.cells zP 76 (0, 0))) ∧ Kept [] w1 w')
    (fun u y x w' => u = .int .i64 (na : Int) ∧ (∃ gp, y = .pointer (some ⟨gp, 0, none⟩) ∧ w1.heap.size ≤ gp ∧ w'.heap[gp]? = some (.cells (partC p.s p.k).toArray 76 (0, 0))) ∧ Kept [] w1 w')
    (fun u => .pointer (some ⟨b, off + na * 33, none⟩)) (fun u => .agg (partC p.s p.k).toArray)
    (by simp only [Act.put, List.setIfInBounds_toArray, List.set_cons_zero, List.set_cons_succ]; rfl) (by exact Or.inl ⟨by rfl, fun W' hW' => by go_simp⟩)
    (by simp only [Act.put, List.setIfInBounds_toArray, List.set_cons_zero, List.set_cons_succ]; rfl) (by exact Or.inl ⟨by rfl, fun W' hW' => by go_simp⟩)
    (by simp only [Act.put, List.setIfInBounds_toArray, List.set_cons_zero, List.set_cons_succ]; rfl) (by exact Or.inl ⟨by rfl, fun W' hW' => by go_simp⟩)
    (by simp only [Act.put, List.setIfInBounds_toArray, List.set_cons_zero, List.set_cons_succ]; rfl) (by exact Or.inl ⟨by rfl, fun W' hW' => by have h9 := hW'.cell d2 (by simp); go_simp⟩)
    (by simp only [Act.put, List.setIfInBounds_toArray, List.set_cons_zero, List.set_cons_succ]; rfl) (by exact Or.inl ⟨by rfl, fun W' hW' => by go_simp⟩)
    (by simp only [Act.put, List.setIfInBounds_toArray, List.set_cons_zero, List.set_cons_succ]; rfl) (by exact Or.inl ⟨by rfl, fun W' hW' => by go_simp⟩)
    (by simp only [Act.put, List.setIfInBounds_toArray, List.set_cons_zero, List.set_cons_succ]; rfl) (by exact Or.inl ⟨by rfl, fun W' hW' => by go_simp⟩)
    (by simp only [Act.put, List.setIfInBounds_toArray, List.set_cons_zero, List.set_cons_succ]; rfl) (by exact Or.inl ⟨by rfl, fun W' hW' => by have h9 := hW'.cell d1 (by simp); go_simp⟩)
    (by simp only [Act.put, List.setIfInBounds_toArray, List.set_cons_zero, List.set_cons_succ]; rfl) (by exact Or.inl ⟨by rfl, fun W' hW' => by go_simp⟩)
    (by simp only [Act.put, List.setIfInBounds_toArray, List.set_cons_zero, List.set_cons_succ]; rfl) (by exact Or.inl ⟨by rfl, fun W' hW' => by go_simp⟩)
    (by simp only [Act.put, List.setIfInBounds_toArray, List.set_cons_zero, List.set_cons_succ]; rfl) (by exact Or.inl ⟨by rfl, fun W' hW' => (by rw [← unhide HND]; exact run_shr _ _ _ _ rfl n (k + 1) (by omega) rfl (by rw [hk1]; rfl) W')⟩)
    (Kept.refl [] w1).drew
    ⟨fun w' h => h, fun u w' h => h.2, fun u w' h => h.2, fun u y w' h => h.2.2, fun u y x w' h => h.2.2⟩
    (by intro w' i K hK; exact wp_callN rfl Tryd.call55 [.int .u64 (nd : Int)] rfl (unhide HON2 w') (fun e w2 h => ⟨_, h.1, hK _ _ ⟨rfl, by rw [h.2]; exact i⟩⟩))
    (by intro w' i K hK; unfold Oper.wp execOp; go_simp; exact hK _ _ ⟨⟨_, rfl, i.size, heap_alloc_new w' (.cells zP 76)⟩, i.alloc _⟩)
    (by rintro u w' ⟨rfl, i⟩ K hK; unfold Oper.wp execOp; go_simp; exact hK _ _ ⟨rfl, ⟨_, rfl, i.size, heap_alloc_new w' (.cells zP 76)⟩, i.alloc _⟩)
    (by rintro y w' ⟨⟨gp, rfl, h1, h2⟩, i⟩ K hK; exact wp_callN rfl Tryd.call55 [.int .u64 (nd : Int)] rfl (unhide HON2 w') (fun e w2 h => ⟨_, h.1, hK _ _ ⟨rfl, ⟨gp, rfl, h1, by rw [h.2]; exact h2⟩, by rw [h.2]; exact i⟩⟩))
    (by
      intro u y w' hh K hK
      simp only [Act.put, List.setIfInBounds_toArray, List.set_cons_zero, List.set_cons_succ] at hK ⊢
      obtain ⟨rfl, ⟨gp, rfl, h1, h2⟩, i⟩ := hh
      exact wp_store_row 76 _ _ rfl gp (partC p.s p.k).toArray rfl rfl _ zP h2 (by rw [List.size_toArray, partC_len hs32]; exact size_part) (by rw [zP_size, List.size_toArray, partC_len hs32]) (unhide HON) (hK undef _ ⟨rfl, ⟨gp, rfl, h1, setRow_heap _ _ _ _ _ _ h2⟩, i.setRow (Or.inr h1) _⟩))
    (by rintro u w' ⟨rfl, _⟩; exact Or.inl ⟨by rfl, fun W' hW' => by go_simp⟩)
    (by
      rintro u w' ⟨rfl, _⟩
      refine Or.inl ⟨by rfl, fun W' hW' => ?_⟩
      have h9 := run_loadVar_mid (P := Tryd.prog) W' b (off + na * 33) 76 (partC p.s p.k) _ (fun k u hk => hW'.cell (unhide HRG k u hk) (by simp)) Tryd.underlying76 rfl (by rw [partC_len hs32]; exact size_part)
      unfold execOp
      simp only [Instr.loadAt, Instr.sureAddr, Sem.run_bind, Sem.run_pure, Result.andThen_ok]
      change ((Sem.run Tryd.prog (loadVar 76 ⟨b, off + na * 33, none⟩) W').andThen fun a w' => Result.ok (Next.value a) w') = _
      rw [h9]
      rfl)
    (by rintro u y w' ⟨rfl, ⟨gp, rfl, _⟩, _⟩; exact Or.inl ⟨by rfl, fun W' hW' => by go_simp⟩)
    (by
      rintro u y w' ⟨rfl, ⟨gp, rfl, _⟩, _⟩
      refine Or.inl ⟨by rfl, fun W' hW' => ?_⟩
      have h9 := run_loadVar_mid (P := Tryd.prog) W' b (off + na * 33) 76 (partC p.s p.k) _ (fun k u hk => hW'.cell (unhide HRG k u hk) (by simp)) Tryd.underlying76 rfl (by rw [partC_len hs32]; exact size_part)
      unfold execOp
      simp only [Instr.loadAt, Instr.sureAddr, Sem.run_bind, Sem.run_pure, Result.andThen_ok]
      change ((Sem.run Tryd.prog (loadVar 76 ⟨b, off + na * 33, none⟩) W').andThen fun a w' => Result.ok (Next.value a) w') = _
      rw [h9]
      rfl)
    ?_
  rintro u y x1 Y ⟨rfl, ⟨gp, rfl, hgp, hrow⟩, kY⟩
  simp only [Act.put, List.setIfInBounds_toArray, List.set_cons_zero, List.set_cons_succ]
  have HKY := hide ((unhide HK1).trans kY (by simp))
  have HZY := hide (kY.heap (unhide HZ1) (by simp))
  have HRY := hide hrow
  have hgw := lt_of_block (unhide HZ1)
  clear kY hrow HRG HON2 d1 d2 HK1 HZ1
  go_wp2_with fail
  have HLs := hide (unhide HD)
  obtain ⟨L, hL⟩ : ∃ L, leavesK ps = L := ⟨_, rfl⟩
  rw [hL] at HPA HD
  go_loopw [9] (fun t9 wr => ∃ (m : Nat) (s : List Nat) (kv : Value), h ≤ m ∧ m ≤ k ∧ t9 = .int .i64 ((m : Int) - 1) ∧ Hid (PA z w m s kv (subL L lo m)) ∧ Hid (wr.heap[gp]? = some (.cells (partC s kv).toArray 76 (0, 0))) ∧ Hid (wr.heap[w.heap.size]? = some (.cells (zb 32) 36 (0, 0))) ∧ Hid (Kept [] w wr)) (fun t _ => (intOf t + 1).toNat)
  case atStart => exact ⟨k, _, _, hhk2, Nat.le_refl _, rfl, HPA, HRY, HZY, HKY⟩
  case round =>
    obtain ⟨m, s, kv, hm1, hm2, rfl, HPM, HRM, HZM, HKM⟩ := hrel
    by_cases hmh : h < m
    · obtain ⟨i, rfl⟩ : ∃ i, m = i + 1 := ⟨m - 1, by omega⟩
      have e9 : ((i + 1 : Nat) : Int) - 1 = (i : Int) := by omega
      rw [e9]
      have hge : (h : Int) ≤ i := by omega
      obtain ⟨g, s0, k0, l0, s1, k1, l1, hkv, hgr, hp0, hp1, hll, hss⟩ := unhide HPM
      subst hkv
      have HG := hide ((unhide HKM).heap hgr (by simp))
      have hsub := subL_kids hll.symm hp0.len hp1.len
      have h32 : s.length = 32 := by rw [hss]; exact (nodS_dg z s0 s1).1
      have hgp9 := cell_of_row _ _ 32 _ _ _ (unhide HRM)
      have hgp8 : wr.cell? ⟨gp, 32, none⟩ = some (.pointer (some ⟨g, 0, none⟩)) := by
        rw [hgp9]; simp [partC, h32]
      have hrg0 : wr.rangeAt g 0 (partC s0 k0) := fun j u hj => range_rowV (unhide HG) j u (by rw [List.getElem?_append_left (List.getElem?_eq_some_iff.1 hj).1]; exact hj)
      have hrg1 : wr.rangeAt g 33 (partC s1 k1) := fun j u hj => by
        have h9 := range_rowV (unhide HG) (33 + j) u (by rw [List.getElem?_append_right (by rw [partC_len hp0.dg.1]; omega), partC_len hp0.dg.1, Nat.add_sub_cancel_left]; exact hj)
        rw [Nat.zero_add] at h9
        exact h9
      obtain ⟨bt, hbt⟩ : ∃ bt, lo / 2 ^ i % 2 = bt := ⟨_, rfl⟩
      have hbt2 : bt = 0 ∨ bt = 1 := by omega
      obtain ⟨sx, kx, HPX, HRX⟩ : ∃ sx kx, Hid (PA z w i sx kx (subL L lo i)) ∧ Hid (wr.rangeAt g (bt * 33) (partC sx kx)) := by
        rcases hbt2 with rfl | rfl
        · exact ⟨s0, k0, hide (by rw [← hsub.1 hbt]; exact hp0), hide hrg0⟩
        · exact ⟨s1, k1, hide (by rw [← hsub.2 hbt]; exact hp1), hide hrg1⟩
      have HANDV := hide (by
        have h9 := u64_and_natT (lo / 2 ^ i) 1 (by have := Nat.div_le_self lo (2 ^ i); omega) (by omega)
        rw [Nat.and_one_is_mod, hbt] at h9
        exact h9 : bits BinOp.and IntKind.u64 ((lo / 2 ^ i : Nat) : Int) ((1 : Nat) : Int) = (bt : Int))
      have hx32 := (unhide HPX).dg.1
      have HOX := hide (all_one (partC_one (s := sx) (unhide HPX).one))
      have HSR := hide (fun (W : World) => shr_run Tryd.prog lo i (by omega) W)
      obtain ⟨ld, hld⟩ : ∃ ld, lo / 2 ^ i = ld := ⟨_, rfl⟩
      have HLD := hide hld
      rw [hld] at HANDV
      have hand : bits BinOp.and IntKind.u64 (ld : Int) 1 = (bt : Int) := unhide HANDV
      have hb0 : ¬ (bt : Int) < 0 := by omega
      have hb1 : ¬ (2 : Int) ≤ bt := by omega
      clear hp0 hp1 hll hss hsub hrg0 hrg1 hgp9 hgr hbt hld e9
      go_wp2_with fail
      refine wp_quiet_tail 9 (by kernel_rfl) (by kernel_rfl) ?_
      simp only [List.take_succ_cons, List.take_zero, List.drop_succ_cons, List.drop_zero]
      iterate 4 (go_big_quiet_step (fail))
      refine wpQuiet_val rfl (.int .u64 (ld : Int)) (fun w' _ => by rw [← unhide HLD]; exact run_shr _ _ _ _ rfl lo i (by omega) rfl rfl w') ?_
      simp only [Act.put, List.setIfInBounds_toArray, List.set_cons_succ, List.set_cons_zero]
      iterate 3 (go_big_quiet_step (fail))
      refine wpQuiet_midT rfl 76 _ rfl g (bt * 33) rfl (partC sx kx) _ (fun w' hw' j u hj => by obtain ⟨m9, rfl⟩ := hw'; exact unhide HRX j u hj) Tryd.underlying76 rfl (by rw [partC_len hx32]; exact size_part) ?_
      simp only [Act.put, List.setIfInBounds_toArray, List.set_cons_succ, List.set_cons_zero]
      refine wpQuiet_nil ?_
      rintro _ ⟨m9, rfl⟩
      have HRM2 := hide (by exact unhide HRM : (wr.drewN m9).heap[gp]? = some (.cells (partC s (.pointer (some ⟨g, 0, none⟩))).toArray 76 (0, 0)))
      have HKM2 := hide (((unhide HKM).drewN m9).setRow (g := gp) (Or.inr (by omega)) (partC sx kx).toArray)
      have HRM3 := hide (setRow_heap (wr.drewN m9) gp (partC s (.pointer (some ⟨g, 0, none⟩))).toArray (partC sx kx).toArray 76 (0, 0) (unhide HRM2))
      have HZM3 := hide ((setRow_other (wr.drewN m9) gp w.heap.size (partC sx kx).toArray (by omega)).trans (unhide HZM))
      go_wp2_with (refine wpList_store_row rfl 76 (.tmp 8) _ rfl gp (partC sx kx).toArray rfl rfl _ _ (unhide HRM2) (by rw [List.size_toArray, partC_len hx32]; exact size_part) (by rw [List.size_toArray, List.size_toArray, partC_len hx32, partC_len h32]) (unhide HOX) ?_)
      refine ⟨⟨i, _, _, by omega, by omega, rfl, HPX, HRM3, HZM3, HKM2⟩, ?_⟩
      simp [intOf]
    · have hme : m = h := by omega
      subst hme
      have hnl : ¬ (m : Int) ≤ (m : Int) - 1 := by omega
      have hs9 := (unhide HPM).sum
      rw [subL_all (unhide HDV), unhide HD] at hs9
      subst hs9
      have HKM2 := hide ((unhide HKM).setRow (g := w.heap.size) (Or.inr (Nat.le_refl _)) (brow s))
      have hd32 := (unhide HPM).dg.1
      have HRS := hide (range_part (range_rowV (unhide HRM)))
      go_wp2_with (first
        | (refine wpList_load_mid rfl 36 (.tmp 48) rfl gp 0 rfl (s.map Go.Proofs.YtfajlfcomhjnkaaDoor.u8) _ (unhide HRS) Tryd.underlying36 rfl (by rw [List.length_map, hd32]; exact Tryd.size_dig) ?_)
        | (refine wpList_store_row rfl 36 (.tmp 6) _ rfl w.heap.size (brow s) rfl rfl _ (zb 32) (unhide HZM) (by rw [brow_size, hd32]; exact Tryd.size_dig) (by rw [zb_size, brow_size, hd32]) (brow_one _) ?_))
      refine bodyPost_ret (v := .agg (brow s)) ?_ rfl ⟨rfl, unhide HKM2⟩
      exact results_cell_row rfl _ _ w.heap.size _ (brow s) (0, 0) _ rfl (setRow_heap _ _ _ _ _ _ (unhide HZM)) Tryd.underlying36 rfl (by rw [brow_size, hd32]; exact Tryd.size_dig)
end Go.Proofs.YtfajlfcomhjnkaaDoor
/-
  Laws for drawn regions, by genreg.py. No program.
-/
namespace Go.Proofs.YtfajlfcomhjnkaaDoor
open Go Go.RowKit Go.BigFrame
set_option linter.unusedVariables false
set_option linter.unusedSimpArgs false
section
variable {P : Program} {Q : Exit → Act → World → Prop}
theorem wp_ra6 {id : Nat} {o0 o1 o2 o3 o4 o5 : Oper} {a : Act} {w : World} (hm : P.follows .mixedOrders = true) (hs : Region.noSelect #[o0, o1, o2, o3, o4, o5] = true)
    (f0 : Region.free .any #[o0, o1, o2, o3, o4, o5] #[false, false, false, false, false, false] 0 = true) (r0 : (Region.ready .any #[o0, o1, o2, o3, o4, o5] #[false, false, false, false, false, false]).contains 0 = true)
    (f1 : Region.free .any #[o0, o1, o2, o3, o4, o5] #[true, false, false, false, false, false] 1 = true) (r1 : (Region.ready .any #[o0, o1, o2, o3, o4, o5] #[true, false, false, false, false, false]).contains 1 = true)
    (f2 : Region.free .any #[o0, o1, o2, o3, o4, o5] #[true, true, false, false, false, false] 2 = true) (r2 : (Region.ready .any #[o0, o1, o2, o3, o4, o5] #[true, true, false, false, false, false]).contains 2 = true)
    (q_ : Region.ready .any #[o0, o1, o2, o3, o4, o5] #[true, true, true, false, false, false] = [3])
    (q3_ : Region.ready .any #[o0, o1, o2, o3, o4, o5] #[true, true, true, true, false, false] = [4])
    (q3_4_ : Region.ready .any #[o0, o1, o2, o3, o4, o5] #[true, true, true, true, true, false] = [5])
    (q3_4_5_ : Region.ready .any #[o0, o1, o2, o3, o4, o5] #[true, true, true, true, true, true] = [])
    (g3 : o3.guard = none)    (g4 : o4.guard = none)    (g5 : o5.guard = none)
    (v0 v1 v2 : Value) (A0 A1 A2 : Act)
    (S : World → Prop)
    (I_ : World → Prop)
    (I3_ : Value → World → Prop)
    (I3_4_ : Value → Value → World → Prop)
    (I3_4_5_ : Value → Value → Value → World → Prop)
    (p0 : a.put o0.dst v0 = A0) (hy0 : YieldsIf P #[o0, o1, o2, o3, o4, o5] S o0 v0 a)
    (p1 : A0.put o1.dst v1 = A1) (hy1 : YieldsIf P #[o0, o1, o2, o3, o4, o5] S o1 v1 A0)
    (p2 : A1.put o2.dst v2 = A2) (hy2 : YieldsIf P #[o0, o1, o2, o3, o4, o5] S o2 v2 A1)
    (i0 : I_ w.drew)
    (hIS : (∀ w', I_  w' → S w') ∧ (∀ (u3 : Value) w', I3_ u3 w' → S w') ∧ (∀ (u3 u4 : Value) w', I3_4_ u3 u4 w' → S w') ∧ (∀ (u3 u4 u5 : Value) w', I3_4_5_ u3 u4 u5 w' → S w'))
    (s_3 : ∀ w', I_  w' → ∀ K : Act → World → Prop, (∀ (u3 : Value) w2, I3_ u3 w2 → K (A2.put o3.dst u3) w2) → o3.wp P A2 w' K (NoPanic Q))
    (s3_4 : ∀ (u3 : Value) w', I3_ u3 w' → ∀ K : Act → World → Prop, (∀ (u4 : Value) w2, I3_4_ u3 u4 w2 → K ((A2.put o3.dst u3).put o4.dst u4) w2) → o4.wp P (A2.put o3.dst u3) w' K (NoPanic Q))
    (s3_4_5 : ∀ (u3 u4 : Value) w', I3_4_ u3 u4 w' → ∀ K : Act → World → Prop, (∀ (u5 : Value) w2, I3_4_5_ u3 u4 u5 w2 → K (((A2.put o3.dst u3).put o4.dst u4).put o5.dst u5) w2) → o5.wp P ((A2.put o3.dst u3).put o4.dst u4) w' K (NoPanic Q))
    (h : ∀ (u3 u4 u5 : Value) w', I3_4_5_ u3 u4 u5 w' → Q .normal (((A2.put o3.dst u3).put o4.dst u4).put o5.dst u5) w') :
    (Code.region id #[o0, o1, o2, o3, o4, o5] true).wp P Q a w := by
  subst p0 p1 p2
  obtain ⟨z_, z3_, z3_4_, z3_4_5_⟩ := hIS
  refine wp_region_noPanic ?_
  refine wp_region_held_drew (S := S) hm (z_ _ i0) (fun hH => ?_)
  show wpAnyH P .any #[o0, o1, o2, o3, o4, o5] (NoPanic Q) S 6 #[false, false, false, false, false, false] a w.drew
  refine wpAnyH_take (i := 0) (oi := o0) rfl hs f0 r0 (fun _ _ _ h => h) hy0 hH ?_
  refine wpAnyH_take (i := 1) (oi := o1) rfl hs f1 r1 (fun _ _ _ h => h) hy1 hH ?_
  refine wpAnyH_take (i := 2) (oi := o2) rfl hs f2 r2 (fun _ _ _ h => h) hy2 hH ?_
  generalize (((a.put o0.dst v0).put o1.dst v1).put o2.dst v2) = B at *
  have wa3 : ∀ y, Region.wanted o3 y = true := fun y => by unfold Region.wanted; rw [g3]
  have wa4 : ∀ y, Region.wanted o4 y = true := fun y => by unfold Region.wanted; rw [g4]
  have wa5 : ∀ y, Region.wanted o5 y = true := fun y => by unfold Region.wanted; rw [g5]
  have t3_4_5_ : ∀ (u3 u4 u5 : Value) w', I3_4_5_ u3 u4 u5 w' → wpAnyH P .any #[o0, o1, o2, o3, o4, o5] (NoPanic Q) S 0 #[true, true, true, true, true, true] (((B.put o3.dst u3).put o4.dst u4).put o5.dst u5) w' := by
    intro u3 u4 u5 w0 i0
    exact ⟨q3_4_5_, NoPanic.normal (h u3 u4 u5 w0 i0)⟩
  have t3_4_ : ∀ (u3 u4 : Value) w', I3_4_ u3 u4 w' → wpAnyH P .any #[o0, o1, o2, o3, o4, o5] (NoPanic Q) S 1 #[true, true, true, true, true, false] ((B.put o3.dst u3).put o4.dst u4) w' := by
    intro u3 u4 w0 i0
    refine wpAnyH_ready (rs := [5]) q3_4_ (by simp) (AllReadyH.cons (o := o5) rfl (fun K hK => ?_) AllReadyH.nil)
    · rw [if_pos (wa5 _)]
      refine s3_4_5 u3 u4 w0 i0 K (fun u5 w1 i1 => hK.out _ _ (z3_4_5_ u3 u4 u5 w1 i1) (fun _ => ?_))
      clear hK
      exact t3_4_5_ u3 u4 u5 w1 i1
  have t3_ : ∀ (u3 : Value) w', I3_ u3 w' → wpAnyH P .any #[o0, o1, o2, o3, o4, o5] (NoPanic Q) S 2 #[true, true, true, true, false, false] (B.put o3.dst u3) w' := by
    intro u3 w0 i0
    refine wpAnyH_ready (rs := [4]) q3_ (by simp) (AllReadyH.cons (o := o4) rfl (fun K hK => ?_) AllReadyH.nil)
    · rw [if_pos (wa4 _)]
      refine s3_4 u3 w0 i0 K (fun u4 w1 i1 => hK.out _ _ (z3_4_ u3 u4 w1 i1) (fun _ => ?_))
      clear hK
      exact t3_4_ u3 u4 w1 i1
  have t_ : ∀ w', I_  w' → wpAnyH P .any #[o0, o1, o2, o3, o4, o5] (NoPanic Q) S 3 #[true, true, true, false, false, false] B w' := by
    intro w0 i0
    refine wpAnyH_ready (rs := [3]) q_ (by simp) (AllReadyH.cons (o := o3) rfl (fun K hK => ?_) AllReadyH.nil)
    · rw [if_pos (wa3 _)]
      refine s_3  w0 i0 K (fun u3 w1 i1 => hK.out _ _ (z3_ u3 w1 i1) (fun _ => ?_))
      clear hK
      exact t3_ u3 w1 i1
  exact t_ w.drew i0

theorem wp_rb14 {id : Nat} {o0 o1 o2 o3 o4 o5 o6 o7 o8 o9 o10 o11 o12 o13 : Oper} {a : Act} {w : World} (hm : P.follows .mixedOrders = true) (hs : Region.noSelect #[o0, o1, o2, o3, o4, o5, o6, o7, o8, o9, o10, o11, o12, o13] = true)
    (f0 : Region.free .any #[o0, o1, o2, o3, o4, o5, o6, o7, o8, o9, o10, o11, o12, o13] #[false, false, false, false, false, false, false, false, false, false, false, false, false, false] 0 = true) (r0 : (Region.ready .any #[o0, o1, o2, o3, o4, o5, o6, o7, o8, o9, o10, o11, o12, o13] #[false, false, false, false, false, false, false, false, false, false, false, false, false, false]).contains 0 = true)
    (f1 : Region.free .any #[o0, o1, o2, o3, o4, o5, o6, o7, o8, o9, o10, o11, o12, o13] #[true, false, false, false, false, false, false, false, false, false, false, false, false, false] 1 = true) (r1 : (Region.ready .any #[o0, o1, o2, o3, o4, o5, o6, o7, o8, o9, o10, o11, o12, o13] #[true, false, false, false, false, false, false, false, false, false, false, false, false, false]).contains 1 = true)
    (f2 : Region.free .any #[o0, o1, o2, o3, o4, o5, o6, o7, o8, o9, o10, o11, o12, o13] #[true, true, false, false, false, false, false, false, false, false, false, false, false, false] 2 = true) (r2 : (Region.ready .any #[o0, o1, o2, o3, o4, o5, o6, o7, o8, o9, o10, o11, o12, o13] #[true, true, false, false, false, false, false, false, false, false, false, false, false, false]).contains 2 = true)
    (f3 : Region.free .any #[o0, o1, o2, o3, o4, o5, o6, o7, o8, o9, o10, o11, o12, o13] #[true, true, true, false, false, false, false, false, false, false, false, false, false, false] 3 = true) (r3 : (Region.ready .any #[o0, o1, o2, o3, o4, o5, o6, o7, o8, o9, o10, o11, o12, o13] #[true, true, true, false, false, false, false, false, false, false, false, false, false, false]).contains 3 = true)
    (f4 : Region.free .any #[o0, o1, o2, o3, o4, o5, o6, o7, o8, o9, o10, o11, o12, o13] #[true, true, true, true, false, false, false, false, false, false, false, false, false, false] 4 = true) (r4 : (Region.ready .any #[o0, o1, o2, o3, o4, o5, o6, o7, o8, o9, o10, o11, o12, o13] #[true, true, true, true, false, false, false, false, false, false, false, false, false, false]).contains 4 = true)
    (f5 : Region.free .any #[o0, o1, o2, o3, o4, o5, o6, o7, o8, o9, o10, o11, o12, o13] #[true, true, true, true, true, false, false, false, false, false, false, false, false, false] 5 = true) (r5 : (Region.ready .any #[o0, o1, o2, o3, o4, o5, o6, o7, o8, o9, o10, o11, o12, o13] #[true, true, true, true, true, false, false, false, false, false, false, false, false, false]).contains 5 = true)
    (f6 : Region.free .any #[o0, o1, o2, o3, o4, o5, o6, o7, o8, o9, o10, o11, o12, o13] #[true, true, true, true, true, true, false, false, false, false, false, false, false, false] 6 = true) (r6 : (Region.ready .any #[o0, o1, o2, o3, o4, o5, o6, o7, o8, o9, o10, o11, o12, o13] #[true, true, true, true, true, true, false, false, false, false, false, false, false, false]).contains 6 = true)
    (f8 : Region.free .any #[o0, o1, o2, o3, o4, o5, o6, o7, o8, o9, o10, o11, o12, o13] #[true, true, true, true, true, true, true, false, false, false, false, false, false, false] 8 = true) (r8 : (Region.ready .any #[o0, o1, o2, o3, o4, o5, o6, o7, o8, o9, o10, o11, o12, o13] #[true, true, true, true, true, true, true, false, false, false, false, false, false, false]).contains 8 = true)
    (f9 : Region.free .any #[o0, o1, o2, o3, o4, o5, o6, o7, o8, o9, o10, o11, o12, o13] #[true, true, true, true, true, true, true, false, true, false, false, false, false, false] 9 = true) (r9 : (Region.ready .any #[o0, o1, o2, o3, o4, o5, o6, o7, o8, o9, o10, o11, o12, o13] #[true, true, true, true, true, true, true, false, true, false, false, false, false, false]).contains 9 = true)
    (f10 : Region.free .any #[o0, o1, o2, o3, o4, o5, o6, o7, o8, o9, o10, o11, o12, o13] #[true, true, true, true, true, true, true, false, true, true, false, false, false, false] 10 = true) (r10 : (Region.ready .any #[o0, o1, o2, o3, o4, o5, o6, o7, o8, o9, o10, o11, o12, o13] #[true, true, true, true, true, true, true, false, true, true, false, false, false, false]).contains 10 = true)
    (q_ : Region.ready .any #[o0, o1, o2, o3, o4, o5, o6, o7, o8, o9, o10, o11, o12, o13] #[true, true, true, true, true, true, true, false, true, true, true, false, false, false] = [7])
    (q7_ : Region.ready .any #[o0, o1, o2, o3, o4, o5, o6, o7, o8, o9, o10, o11, o12, o13] #[true, true, true, true, true, true, true, true, true, true, true, false, false, false] = [11])
    (q7_11_ : Region.ready .any #[o0, o1, o2, o3, o4, o5, o6, o7, o8, o9, o10, o11, o12, o13] #[true, true, true, true, true, true, true, true, true, true, true, true, false, false] = [12])
    (q7_11_12_ : Region.ready .any #[o0, o1, o2, o3, o4, o5, o6, o7, o8, o9, o10, o11, o12, o13] #[true, true, true, true, true, true, true, true, true, true, true, true, true, false] = [13])
    (q7_11_12_13_ : Region.ready .any #[o0, o1, o2, o3, o4, o5, o6, o7, o8, o9, o10, o11, o12, o13] #[true, true, true, true, true, true, true, true, true, true, true, true, true, true] = [])
    (g7 : o7.guard = none)    (g11 : o11.guard = none)    (g12 : o12.guard = none)    (g13 : o13.guard = none)
    (v0 v1 v2 v3 v4 v5 v6 v8 v9 v10 : Value) (A0 A1 A2 A3 A4 A5 A6 A7 A8 A9 : Act)
    (S : World → Prop)
    (I_ : World → Prop)
    (I7_ : Value → World → Prop)
    (I7_11_ : Value → Value → World → Prop)
    (I7_11_12_ : Value → Value → Value → World → Prop)
    (I7_11_12_13_ : Value → Value → Value → Value → World → Prop)
    (p0 : a.put o0.dst v0 = A0) (hy0 : YieldsIf P #[o0, o1, o2, o3, o4, o5, o6, o7, o8, o9, o10, o11, o12, o13] S o0 v0 a)
    (p1 : A0.put o1.dst v1 = A1) (hy1 : YieldsIf P #[o0, o1, o2, o3, o4, o5, o6, o7, o8, o9, o10, o11, o12, o13] S o1 v1 A0)
    (p2 : A1.put o2.dst v2 = A2) (hy2 : YieldsIf P #[o0, o1, o2, o3, o4, o5, o6, o7, o8, o9, o10, o11, o12, o13] S o2 v2 A1)
    (p3 : A2.put o3.dst v3 = A3) (hy3 : YieldsIf P #[o0, o1, o2, o3, o4, o5, o6, o7, o8, o9, o10, o11, o12, o13] S o3 v3 A2)
    (p4 : A3.put o4.dst v4 = A4) (hy4 : YieldsIf P #[o0, o1, o2, o3, o4, o5, o6, o7, o8, o9, o10, o11, o12, o13] S o4 v4 A3)
    (p5 : A4.put o5.dst v5 = A5) (hy5 : YieldsIf P #[o0, o1, o2, o3, o4, o5, o6, o7, o8, o9, o10, o11, o12, o13] S o5 v5 A4)
    (p6 : A5.put o6.dst v6 = A6) (hy6 : YieldsIf P #[o0, o1, o2, o3, o4, o5, o6, o7, o8, o9, o10, o11, o12, o13] S o6 v6 A5)
    (p8 : A6.put o8.dst v8 = A7) (hy8 : YieldsIf P #[o0, o1, o2, o3, o4, o5, o6, o7, o8, o9, o10, o11, o12, o13] S o8 v8 A6)
    (p9 : A7.put o9.dst v9 = A8) (hy9 : YieldsIf P #[o0, o1, o2, o3, o4, o5, o6, o7, o8, o9, o10, o11, o12, o13] S o9 v9 A7)
    (p10 : A8.put o10.dst v10 = A9) (hy10 : YieldsIf P #[o0, o1, o2, o3, o4, o5, o6, o7, o8, o9, o10, o11, o12, o13] S o10 v10 A8)
    (i0 : I_ w.drew)
    (hIS : (∀ w', I_  w' → S w') ∧ (∀ (u7 : Value) w', I7_ u7 w' → S w') ∧ (∀ (u7 u11 : Value) w', I7_11_ u7 u11 w' → S w') ∧ (∀ (u7 u11 u12 : Value) w', I7_11_12_ u7 u11 u12 w' → S w') ∧ (∀ (u7 u11 u12 u13 : Value) w', I7_11_12_13_ u7 u11 u12 u13 w' → S w'))
    (s_7 : ∀ w', I_  w' → ∀ K : Act → World → Prop, (∀ (u7 : Value) w2, I7_ u7 w2 → K (A9.put o7.dst u7) w2) → o7.wp P A9 w' K (NoPanic Q))
    (s7_11 : ∀ (u7 : Value) w', I7_ u7 w' → ∀ K : Act → World → Prop, (∀ (u11 : Value) w2, I7_11_ u7 u11 w2 → K ((A9.put o7.dst u7).put o11.dst u11) w2) → o11.wp P (A9.put o7.dst u7) w' K (NoPanic Q))
    (s7_11_12 : ∀ (u7 u11 : Value) w', I7_11_ u7 u11 w' → ∀ K : Act → World → Prop, (∀ (u12 : Value) w2, I7_11_12_ u7 u11 u12 w2 → K (((A9.put o7.dst u7).put o11.dst u11).put o12.dst u12) w2) → o12.wp P ((A9.put o7.dst u7).put o11.dst u11) w' K (NoPanic Q))
    (s7_11_12_13 : ∀ (u7 u11 u12 : Value) w', I7_11_12_ u7 u11 u12 w' → ∀ K : Act → World → Prop, (∀ (u13 : Value) w2, I7_11_12_13_ u7 u11 u12 u13 w2 → K ((((A9.put o7.dst u7).put o11.dst u11).put o12.dst u12).put o13.dst u13) w2) → o13.wp P (((A9.put o7.dst u7).put o11.dst u11).put o12.dst u12) w' K (NoPanic Q))
    (h : ∀ (u7 u11 u12 u13 : Value) w', I7_11_12_13_ u7 u11 u12 u13 w' → Q .normal ((((A9.put o7.dst u7).put o11.dst u11).put o12.dst u12).put o13.dst u13) w') :
    (Code.region id #[o0, o1, o2, o3, o4, o5, o6, o7, o8, o9, o10, o11, o12, o13] true).wp P Q a w := by
  subst p0 p1 p2 p3 p4 p5 p6 p8 p9 p10
  obtain ⟨z_, z7_, z7_11_, z7_11_12_, z7_11_12_13_⟩ := hIS
  refine wp_region_noPanic ?_
  refine wp_region_held_drew (S := S) hm (z_ _ i0) (fun hH => ?_)
  show wpAnyH P .any #[o0, o1, o2, o3, o4, o5, o6, o7, o8, o9, o10, o11, o12, o13] (NoPanic Q) S 14 #[false, false, false, false, false, false, false, false, false, false, false, false, false, false] a w.drew
  refine wpAnyH_take (i := 0) (oi := o0) rfl hs f0 r0 (fun _ _ _ h => h) hy0 hH ?_
  refine wpAnyH_take (i := 1) (oi := o1) rfl hs f1 r1 (fun _ _ _ h => h) hy1 hH ?_
  refine wpAnyH_take (i := 2) (oi := o2) rfl hs f2 r2 (fun _ _ _ h => h) hy2 hH ?_
  refine wpAnyH_take (i := 3) (oi := o3) rfl hs f3 r3 (fun _ _ _ h => h) hy3 hH ?_
  refine wpAnyH_take (i := 4) (oi := o4) rfl hs f4 r4 (fun _ _ _ h => h) hy4 hH ?_
  refine wpAnyH_take (i := 5) (oi := o5) rfl hs f5 r5 (fun _ _ _ h => h) hy5 hH ?_
  refine wpAnyH_take (i := 6) (oi := o6) rfl hs f6 r6 (fun _ _ _ h => h) hy6 hH ?_
  refine wpAnyH_take (i := 8) (oi := o8) rfl hs f8 r8 (fun _ _ _ h => h) hy8 hH ?_
  refine wpAnyH_take (i := 9) (oi := o9) rfl hs f9 r9 (fun _ _ _ h => h) hy9 hH ?_
  refine wpAnyH_take (i := 10) (oi := o10) rfl hs f10 r10 (fun _ _ _ h => h) hy10 hH ?_
  generalize ((((((((((a.put o0.dst v0).put o1.dst v1).put o2.dst v2).put o3.dst v3).put o4.dst v4).put o5.dst v5).put o6.dst v6).put o8.dst v8).put o9.dst v9).put o10.dst v10) = B at *
  have wa7 : ∀ y, Region.wanted o7 y = true := fun y => by unfold Region.wanted; rw [g7]
  have wa11 : ∀ y, Region.wanted o11 y = true := fun y => by unfold Region.wanted; rw [g11]
  have wa12 : ∀ y, Region.wanted o12 y = true := fun y => by unfold Region.wanted; rw [g12]
  have wa13 : ∀ y, Region.wanted o13 y = true := fun y => by unfold Region.wanted; rw [g13]
  have t7_11_12_13_ : ∀ (u7 u11 u12 u13 : Value) w', I7_11_12_13_ u7 u11 u12 u13 w' → wpAnyH P .any #[o0, o1, o2, o3, o4, o5, o6, o7, o8, o9, o10, o11, o12, o13] (NoPanic Q) S 0 #[true, true, true, true, true, true, true, true, true, true, true, true, true, true] ((((B.put o7.dst u7).put o11.dst u11).put o12.dst u12).put o13.dst u13) w' := by
    intro u7 u11 u12 u13 w0 i0
    exact ⟨q7_11_12_13_, NoPanic.normal (h u7 u11 u12 u13 w0 i0)⟩
  have t7_11_12_ : ∀ (u7 u11 u12 : Value) w', I7_11_12_ u7 u11 u12 w' → wpAnyH P .any #[o0, o1, o2, o3, o4, o5, o6, o7, o8, o9, o10, o11, o12, o13] (NoPanic Q) S 1 #[true, true, true, true, true, true, true, true, true, true, true, true, true, false] (((B.put o7.dst u7).put o11.dst u11).put o12.dst u12) w' := by
    intro u7 u11 u12 w0 i0
    refine wpAnyH_ready (rs := [13]) q7_11_12_ (by simp) (AllReadyH.cons (o := o13) rfl (fun K hK => ?_) AllReadyH.nil)
    · rw [if_pos (wa13 _)]
      refine s7_11_12_13 u7 u11 u12 w0 i0 K (fun u13 w1 i1 => hK.out _ _ (z7_11_12_13_ u7 u11 u12 u13 w1 i1) (fun _ => ?_))
      clear hK
      exact t7_11_12_13_ u7 u11 u12 u13 w1 i1
  have t7_11_ : ∀ (u7 u11 : Value) w', I7_11_ u7 u11 w' → wpAnyH P .any #[o0, o1, o2, o3, o4, o5, o6, o7, o8, o9, o10, o11, o12, o13] (NoPanic Q) S 2 #[true, true, true, true, true, true, true, true, true, true, true, true, false, false] ((B.put o7.dst u7).put o11.dst u11) w' := by
    intro u7 u11 w0 i0
    refine wpAnyH_ready (rs := [12]) q7_11_ (by simp) (AllReadyH.cons (o := o12) rfl (fun K hK => ?_) AllReadyH.nil)
    · rw [if_pos (wa12 _)]
      refine s7_11_12 u7 u11 w0 i0 K (fun u12 w1 i1 => hK.out _ _ (z7_11_12_ u7 u11 u12 w1 i1) (fun _ => ?_))
      clear hK
      exact t7_11_12_ u7 u11 u12 w1 i1
  have t7_ : ∀ (u7 : Value) w', I7_ u7 w' → wpAnyH P .any #[o0, o1, o2, o3, o4, o5, o6, o7, o8, o9, o10, o11, o12, o13] (NoPanic Q) S 3 #[true, true, true, true, true, true, true, true, true, true, true, false, false, false] (B.put o7.dst u7) w' := by
    intro u7 w0 i0
    refine wpAnyH_ready (rs := [11]) q7_ (by simp) (AllReadyH.cons (o := o11) rfl (fun K hK => ?_) AllReadyH.nil)
    · rw [if_pos (wa11 _)]
      refine s7_11 u7 w0 i0 K (fun u11 w1 i1 => hK.out _ _ (z7_11_ u7 u11 w1 i1) (fun _ => ?_))
      clear hK
      exact t7_11_ u7 u11 w1 i1
  have t_ : ∀ w', I_  w' → wpAnyH P .any #[o0, o1, o2, o3, o4, o5, o6, o7, o8, o9, o10, o11, o12, o13] (NoPanic Q) S 4 #[true, true, true, true, true, true, true, false, true, true, true, false, false, false] B w' := by
    intro w0 i0
    refine wpAnyH_ready (rs := [7]) q_ (by simp) (AllReadyH.cons (o := o7) rfl (fun K hK => ?_) AllReadyH.nil)
    · rw [if_pos (wa7 _)]
      refine s_7  w0 i0 K (fun u7 w1 i1 => hK.out _ _ (z7_ u7 w1 i1) (fun _ => ?_))
      clear hK
      exact t7_ u7 w1 i1
  exact t_ w.drew i0

end
end Go.Proofs.YtfajlfcomhjnkaaDoor
namespace Go.Proofs.YtfajlfcomhjnkaaDoor
open Go.RowKit Go.BigFrame
set_option linter.unusedVariables false
set_option linter.unusedSimpArgs false

theorem wp_callC {o : Oper} {a : Act} {w : World} {K : Act → World → Prop} {Q : Exit → Act → World → Prop} {f : FuncId} {c : Operand} {xs : Array Operand} {ts : Array TypeId} (ho : o.op = .call { callee := .value c, args := xs, argTypes := ts })
    (cap : Array Value) (hc0 : a.eval c = .func (.func f) #[] cap)
    (hcl : ∀ args W, (callFunc f args).run Tryd.prog W = .ok (.enter f args) W) (us : List Value) (he : xs.toList.map a.eval = us) {R : Ending → World → Prop}
    (hc : Calls Tryd.prog f (us.toArray ++ cap) w R) (h : ∀ e w', R e w' → ∃ v, e = .returned v ∧ K (a.put o.dst v) w') : o.wp Tryd.prog a w K Q := by
  have he2 : xs.map a.eval = us.toArray := by rw [← he]; cases xs; simp only [List.map_toArray]
  unfold Oper.wp execOp
  simp only [ho]
  simp only [resolve, invoke, hc0, he2, Sem.run_bind, Sem.run_pure, Result.andThen_ok, hcl]
  simp [Deferred.ofValue, hcl, go_sem]
  refine hc.mono ?_
  intro e w2 h2
  obtain ⟨v, rfl, h3⟩ := h e w2 h2
  exact h3
theorem Tryd.callSum : ∀ args W, (callFunc 51 args).run Tryd.prog W = .ok (.enter 51 args) W := by
  intro args W
  exact Tryd.call51 args W

theorem pow_all (x : Nat) (hx : x < 32768) (h : x &&& (x - 1) = 0) (h0 : x ≠ 0) : x = 2 ^ Lib.ctz 64 x := by
  obtain ⟨m, hm⟩ := ctz_form (M := x) h0 (by omega)
  generalize Lib.ctz 64 x = c at hm ⊢
  have hp : 1 ≤ 2 ^ c := Nat.one_le_two_pow
  have hps : 2 ^ (c + 1) = 2 * 2 ^ c := by rw [Nat.pow_succ]; omega
  have e0 : x = 2 ^ (c + 1) * m + 2 ^ c := by
    rw [hm, hps, Nat.mul_add, Nat.mul_one, Nat.mul_left_comm, Nat.mul_assoc]
  have e1 : x / 2 ^ (c + 1) = m := by
    rw [e0, Nat.mul_add_div (by omega), Nat.div_eq_of_lt (by omega), Nat.add_zero]
  have e2 : (x - 1) / 2 ^ (c + 1) = m := by
    rw [show x - 1 = 2 ^ (c + 1) * m + (2 ^ c - 1) by omega, Nat.mul_add_div (by omega), Nat.div_eq_of_lt (by omega), Nat.add_zero]
  have e3 : (x &&& (x - 1)) / 2 ^ (c + 1) = m := by rw [Nat.and_div_two_pow, e1, e2, Nat.and_self]
  rw [h, Nat.zero_div] at e3
  rw [hm, ← e3]
  simp
theorem log_dg (z : Int) (no : List Nat) (l : List (List Nat)) (hn : Dg no) (hl : ∀ d ∈ l, Dg d) : Dg (logT z no l) := by
  by_cases h0 : l.length = 0
  · rw [List.eq_nil_of_length_eq_zero h0]; exact hn
  · by_cases h1 : l.length = 1
    · obtain ⟨x, rfl⟩ : ∃ x, l = [x] := by
        cases l with
        | nil => simp at h1
        | cons x r => cases r with
          | nil => exact ⟨x, rfl⟩
          | cons y r => simp at h1
      rw [logT_one]; exact hl x (by simp)
    · rw [logT_cut z no l (by omega)]; exact nodS_dg z _ _
theorem log_form (z : Int) (no : List Nat) (l : List (List Nat)) (hw : widthB z = true) (hn : formB z no = true) (hl : ∀ d ∈ l, formB z d = true) : formB z (logT z no l) = true := by
  by_cases h0 : l.length = 0
  · rw [List.eq_nil_of_length_eq_zero h0]; exact hn
  · by_cases h1 : l.length = 1
    · obtain ⟨x, rfl⟩ : ∃ x, l = [x] := by
        cases l with
        | nil => simp at h1
        | cons x r => cases r with
          | nil => exact ⟨x, rfl⟩
          | cons y r => simp at h1
      rw [logT_one]; exact hl x (by simp)
    · rw [logT_cut z no l (by omega)]; exact nodS_form hw _ _
end Go.Proofs.YtfajlfcomhjnkaaDoor
namespace Go.Proofs.YtfajlfcomhjnkaaDoor
open Go.RowKit Go.BigFrame
set_option linter.unusedVariables false
set_option linter.unusedSimpArgs false

theorem PA.leaves {z : Int} {w : World} : ∀ {h : Nat} {s : List Nat} {k : Value} {l : List (List Nat)}, PA z w h s k l → ∀ d ∈ l, Dg d ∧ formB z d = true
  | 0, _, _, _, hp, d, hd => by obtain ⟨_, rfl, h1, h2⟩ := hp; rw [List.mem_singleton] at hd; subst hd; exact ⟨h1, h2⟩
  | h + 1, _, _, _, hp, d, hd => by
    obtain ⟨g, s0, k0, l0, s1, k1, l1, _, _, h0, h1, rfl, _⟩ := hp
    rcases List.mem_append.1 hd with hd | hd
    · exact h0.leaves d hd
    · exact h1.leaves d hd
theorem PKs.leaves {z : Int} {w : World} {ps : List Pk} (h : PKs z w ps) : ∀ d ∈ leavesK ps, Dg d ∧ formB z d = true := by
  intro d hd
  obtain ⟨p, hp, hd⟩ := List.mem_flatMap.1 hd
  exact (h.ok p hp).leaves d hd
/-- The value of the closure within Range. -/
def sumV (bt bs : Nat) : Value := .func (.func 51) #[] #[.pointer (some ⟨bt, 0, none⟩), .pointer (some ⟨bs, 0, none⟩)]
structure SumW (z : Int) (t : Nat) (v : Value) (ps : List Pk) (bt bs : Nat) (w : World) : Prop where
  tree : TreeAt z w t v ps
  hbt : w.heap[bt]? = some (.cells #[.pointer (some ⟨t, 0, none⟩)] 25 (0, 0))
  hbs : w.heap[bs]? = some (.cells #[sumV bt bs] 86 (0, 0))
  tabs : Tabs w
  tab6 : Tab6 w
theorem SumW.old {z : Int} {t : Nat} {v : Value} {ps : List Pk} {bt bs : Nat} {w w' : World} (h : SumW z t v ps bt bs w) (k : Kept [] w w') : SumW z t v ps bt bs w' :=
  ⟨h.tree.old k, k.heap h.hbt (by simp), k.heap h.hbs (by simp), h.tabs.kept k (by simp) (by simp), h.tab6.kept k⟩
theorem Tryd.underSum : Tryd.prog.underlying 86 = some (.func #[23, 23] #[36] false) := by kernel_rfl
/-- The digest of the leaves from lo to hi. -/
def rngD (z : Int) (no : List Nat) (L : List (List Nat)) (lo hi : Nat) : List Nat := logT z no ((L.drop lo).take (hi - lo))
theorem rngD_cut {z : Int} {no : List Nat} {L : List (List Nat)} {lo hi : Nat} (h2 : 2 ≤ hi - lo) (hl : hi ≤ L.length) : rngD z no L lo hi = nodT z (rngD z no L lo (lo + belT (hi - lo))) (rngD z no L (lo + belT (hi - lo)) hi) := by
  have hb := belT_lt h2
  have hlen : ((L.drop lo).take (hi - lo)).length = hi - lo := by rw [List.length_take, List.length_drop]; omega
  unfold rngD
  rw [logT_cut z no _ (by omega), hlen]
  generalize belT (hi - lo) = m at hb ⊢
  rw [List.take_take, Nat.min_eq_left (by omega), Nat.add_sub_cancel_left, List.drop_take, List.drop_drop]
  congr 3
  omega
theorem rngD_pow {z : Int} {no : List Nat} {L : List (List Nat)} {lo hi h : Nat} (he : hi - lo = 2 ^ h) (hl : hi ≤ L.length) (hlo : lo ≤ hi) : rngD z no L lo hi = perT z h ((L.drop lo).take (2 ^ h)) := by
  have hp : 1 ≤ 2 ^ h := Nat.one_le_two_pow
  unfold rngD
  rw [he, logT_per z no h _ (by rw [List.length_take, List.length_drop]; omega)]

set_option maxRecDepth 100000 in
set_option maxHeartbeats 1000000 in
theorem sumT_any (z : Int) (no : List Nat) (hno : Dg no) (hnf : formB z no = true) (t : Nat) (v : Value) (ps : List Pk) (bt bs : Nat) : ∀ (c lo hi : Nat) (w : World), hi - lo ≤ c → lo < hi → hi ≤ (leavesK ps).length → (leavesK ps).length < 32768 → SumW z t v ps bt bs w →
    Calls Tryd.prog 51 #[.int .u64 lo, .int .u64 hi, .pointer (some ⟨bt, 0, none⟩), .pointer (some ⟨bs, 0, none⟩)] w fun e w' => e = .returned (.agg (brow (rngD z no (leavesK ps) lo hi))) ∧ Kept [] w w' := by
  intro c
  induction c with
  | zero => intro lo hi w h1 h2; omega
  | succ c ih =>
    intro lo hi w hc hlh hhl hb HS
    obtain ⟨n, hn⟩ : ∃ n, hi - lo = n := ⟨_, rfl⟩
    have hn4 : n < 32768 := by omega
    have hsub : IntKind.u64.wrap ((hi : Int) - (lo : Int)) = (n : Int) := by rw [wrU]; omega
    have hsub1 : IntKind.u64.wrap ((n : Int) - 1) = ((n - 1 : Nat) : Int) := by rw [wrU]; omega
    have hand := u64_and_natT n (n - 1) (by omega) (by omega)
    have hrem : ((lo : Int) % (n : Int)) = ((lo % n : Nat) : Int) := by simp
    obtain ⟨D, hD⟩ : ∃ D, rngD z no (leavesK ps) lo hi = D := ⟨_, rfl⟩
    rw [hD]
    have HD := hide hD
    have HLV := hide HS.tree.pk.leaves
    have hDg : Dg D := by
      rw [← hD]
      exact log_dg z no _ hno (fun d hd => (unhide HLV d (List.mem_of_mem_drop (List.mem_of_mem_take hd))).1)
    clear hD
    have kX := (Kept.refl [] w).alloc (.cells (zb 32) 36)
    have HZX := hide (heap_alloc_new w (.cells (zb 32) 36))
    have HSX := hide (HS.old kX)
    have HKX := hide kX
    have HLB := hide (⟨hhl, hb, hc, hlh⟩ : hi ≤ (leavesK ps).length ∧ (leavesK ps).length < 32768 ∧ hi - lo ≤ c + 1 ∧ lo < hi)
    have HIH := hide ih
    have HN := hide hn
    have hlo64 : lo < 32768 := by omega
    have hhi64 : hi < 32768 := by omega
    have hn0 : n ≠ 0 := by omega
    obtain ⟨ab, hab⟩ : ∃ ab, n &&& (n - 1) = ab := ⟨_, rfl⟩
    rw [hab] at hand
    have HAB := hide hab
    obtain ⟨n1, hn1⟩ : ∃ n1, n - 1 = n1 := ⟨_, rfl⟩
    rw [hn1] at hsub1 hand
    clear ih kX HS hhl hb hc hn hab
    obtain ⟨rm, hrm⟩ : ∃ rm, lo % n = rm := ⟨_, rfl⟩
    rw [hrm] at hrem
    have HRM := hide hrm
    have hdl := hDg.1
    have HSZ := hide (by rw [brow_size, hdl]; exact Tryd.size_dig : (Tryd.prog.info? 36).map (·.size) = some (brow D).size)
    clear hrm
    by_cases hAB : ab = 0 ∧ rm = 0
    · obtain ⟨rfl, rfl⟩ := hAB
      have HP := hide (pow_all n hn4 (unhide HAB) hn0)
      have HT6 := hide (fun W (k : Kept [] (w.alloc (.cells (zb 32) 36)) W) => tz64_any n W (by omega) hn0 ((unhide HSX).old k).tab6)
      generalize Lib.ctz 64 n = h at HP HT6
      have HKE := hide (fun W (k : Kept [] (w.alloc (.cells (zb 32) 36)) W) => (by
        have h1 := unhide HLB
        have h2 := unhide HN
        have h3 := unhide HP
        have h4 := keptT_any z t v ps lo h W ((unhide HSX).old k).tree (by omega) (by rw [← h3]; exact Nat.dvd_of_mod_eq_zero (unhide HRM)) h1.2.1
        rw [← rngD_pow (no := no) (by omega) h1.1 (by omega), unhide HD] at h4
        exact h4 : Calls Tryd.prog 36 #[.pointer (some ⟨t, 0, none⟩), .int .u64 lo, .int .i64 h] W fun e w' => e = .returned (.agg (brow D)) ∧ Kept [] W w'))
      go_enter Tryd.func51, Tryd.ntmps51
      go_wp2_with (first | simp only [hsub] | simp only [hsub1] | simp only [hand] | simp only [hrem])
      rw [zb32]
      obtain ⟨X, hX⟩ : ∃ X, w.alloc (.cells (zb 32) 36) = X := ⟨_, rfl⟩
      rw [hX] at HZX HSX HKX HT6 HKE ⊢
      clear hX
      have cb := cell_of_row _ _ 0 _ _ _ (unhide HSX).hbt
      simp at cb
      have hbt9 : bt ≠ w.heap.size := by
        intro e
        have h1 := (unhide HSX).hbt
        rw [e, unhide HZX] at h1
        simp at h1
      refine wp_ra6 (by kernel_rfl) (by kernel_rfl) (by kernel_rfl) (by kernel_rfl) (by kernel_rfl) (by kernel_rfl) (by kernel_rfl) (by kernel_rfl) (by kernel_rfl) (by kernel_rfl) (by kernel_rfl) (by kernel_rfl) rfl rfl rfl
        (.pointer (some ⟨t, 0, none⟩)) (.int .u64 (lo : Int)) (.int .u64 (n : Int)) _ _ _
        (fun w' => Kept [w.heap.size] X w')
        (fun w' => Kept [] X w')
        (fun u w' => u = .int .i64 (h : Int) ∧ Kept [] X w')
        (fun u y w' => u = .int .i64 (h : Int) ∧ y = .agg (brow D) ∧ Kept [] X w')
        (fun u y x w' => w'.heap[w.heap.size]? = some (.cells (brow D) 36 (0, 0)) ∧ Kept [w.heap.size] X w')
        (by simp only [Act.put, List.setIfInBounds_toArray, List.set_cons_zero, List.set_cons_succ]; rfl) (by exact Or.inl ⟨by rfl, fun W' hW' => by have h9 := hW'.cell cb (by simp; omega); go_simp⟩)
        (by simp only [Act.put, List.setIfInBounds_toArray, List.set_cons_zero, List.set_cons_succ]; rfl) (by exact Or.inl ⟨by rfl, fun W' hW' => by go_simp⟩)
        (by simp only [Act.put, List.setIfInBounds_toArray, List.set_cons_zero, List.set_cons_succ]; rfl) (by exact Or.inl ⟨by rfl, fun W' hW' => by go_simp⟩)
        (Kept.refl [] X).drew
        ⟨fun w' h => h.mono (by simp), fun u w' h => h.2.mono (by simp), fun u y w' h => h.2.2.mono (by simp), fun u y x w' h => h.2⟩
        (by intro w' i K hK; exact wp_callN rfl Tryd.call52 [.int .u64 (n : Int)] rfl (unhide HT6 w' i) (fun e w2 h => ⟨_, h.1, hK _ _ ⟨rfl, by rw [h.2]; exact i⟩⟩))
        (by rintro u w' ⟨rfl, i⟩ K hK; exact wp_callN rfl Tryd.call36 [.pointer (some ⟨t, 0, none⟩), .int .u64 (lo : Int), .int .i64 (h : Int)] rfl (unhide HKE w' i) (fun e w2 h => ⟨_, h.1, hK _ _ ⟨rfl, rfl, i.trans h.2 (by simp)⟩⟩))
        (by
          intro u y w' hh K hK
          simp only [Act.put, List.setIfInBounds_toArray, List.set_cons_zero, List.set_cons_succ] at hK ⊢
          obtain ⟨rfl, rfl, i⟩ := hh
          exact wp_store_row 36 _ _ rfl w.heap.size (brow D) rfl rfl _ (zb 32) (i.heap (unhide HZX) (by simp)) (unhide HSZ) (by rw [zb_size, brow_size, hdl]) (brow_one _) (hK undef _ ⟨setRow_heap _ _ _ _ _ _ (i.heap (unhide HZX) (by simp)), (i.mono (by simp)).setRow (Or.inl (by simp)) _⟩))
        ?_
      rintro u y x1 Y ⟨hrow, kY⟩
      simp only [Act.put, List.setIfInBounds_toArray, List.set_cons_zero, List.set_cons_succ]
      have HRY := hide hrow
      have HKY := hide ((unhide HKX).trans kY (by simp))
      clear hrow kY
      go_wp2_with fail
      refine bodyPost_ret (v := .agg (brow D)) ?_ rfl ⟨rfl, unhide HKY⟩
      exact results_cell_row rfl _ _ w.heap.size _ (brow D) (0, 0) _ rfl (unhide HRY) Tryd.underlying36 rfl (unhide HSZ)
    · have hn2 : 2 ≤ n := by
        rcases (by omega : n = 1 ∨ 2 ≤ n) with h9 | h9
        · exfalso
          refine hAB ⟨?_, ?_⟩
          · have := unhide HAB; rw [h9] at this; simpa using this.symm
          · have := unhide HRM; rw [h9, Nat.mod_one] at this; exact this.symm
        · exact h9
      have HBL := hide (bitLen_log n1 (by omega) (by omega))
      have hbel : belT n = 2 ^ n1.log2 := by unfold belT; rw [hn1]
      have hbl := belT_lt hn2
      rw [hbel] at hbl
      have hm64 : n1.log2 < 64 := by
        rcases Nat.lt_or_ge n1.log2 64 with h9 | h9
        · exact h9
        · have : 2 ^ 64 ≤ 2 ^ n1.log2 := Nat.pow_le_pow_right (by omega) h9
          omega
      generalize n1.log2 = m at HBL hbel hbl hm64
      obtain ⟨pm, hpm⟩ : ∃ pm, 2 ^ m = pm := ⟨_, rfl⟩
      have HPM := hide hpm
      rw [hpm] at hbel hbl
      have HCUT := hide (by
        have h1 := unhide HLB
        have h2 := unhide HN
        have h3 := rngD_cut (z := z) (no := no) (L := leavesK ps) (lo := lo) (hi := hi) (by omega) h1.1
        rw [h2, hbel, unhide HD] at h3
        exact h3 : D = nodT z (rngD z no (leavesK ps) lo (lo + pm)) (rngD z no (leavesK ps) (lo + pm) hi))
      have hlm : IntKind.u64.wrap ((lo : Int) + (pm : Int)) = ((lo + pm : Nat) : Int) := by rw [wrU]; omega
      obtain ⟨md, hmd⟩ : ∃ md, lo + pm = md := ⟨_, rfl⟩
      rw [hmd] at hlm HCUT
      have HR1 := hide (fun W (k : Kept [] (w.alloc (.cells (zb 32) 36)) W) => unhide HIH lo md W (by have h1 := unhide HLB; have h2 := unhide HN; omega) (by omega) (by have h1 := unhide HLB; have h2 := unhide HN; omega) (unhide HLB).2.1 ((unhide HSX).old k))
      have HR2 := hide (fun W (k : Kept [] (w.alloc (.cells (zb 32) 36)) W) => unhide HIH md hi W (by have h1 := unhide HLB; have h2 := unhide HN; omega) (by have h1 := unhide HLB; have h2 := unhide HN; omega) (unhide HLB).1 (unhide HLB).2.1 ((unhide HSX).old k))
      have hleaf : ∀ a b, Dg (rngD z no (leavesK ps) a b) ∧ formB z (rngD z no (leavesK ps) a b) = true := fun a b => ⟨log_dg z no _ hno (fun d hd => (unhide HLV d (List.mem_of_mem_drop (List.mem_of_mem_take hd))).1), log_form z no _ (unhide HSX).tree.wid hnf (fun d hd => (unhide HLV d (List.mem_of_mem_drop (List.mem_of_mem_take hd))).2)⟩
      have HOV := hide (fun W (k : Kept [] (w.alloc (.cells (zb 32) 36)) W) => overT_any z (rngD z no (leavesK ps) lo md) (rngD z no (leavesK ps) md hi) W (unhide HSX).tree.wid (hleaf _ _).1 (hleaf _ _).1 (hleaf _ _).2 (hleaf _ _).2 ((unhide HSX).old k).tabs)
      rw [← unhide HCUT] at HOV
      have hl1 := (hleaf lo md).1.1
      have hl2 := (hleaf md hi).1.1
      generalize rngD z no (leavesK ps) lo md = D1 at HR1 HOV hl1
      generalize rngD z no (leavesK ps) md hi = D2 at HR2 HOV hl2
      clear hleaf HCUT hbel hbl hpm hmd HIH
      rcases (by omega : ¬ ab = 0 ∨ (ab = 0 ∧ ¬ rm = 0)) with hA | ⟨rfl, hA⟩
      · have hA' : ((ab : Nat) : Int) ≠ 0 := by omega
        go_enter Tryd.func51, Tryd.ntmps51
        go_wp2_with (first | simp only [hsub] | simp only [hsub1] | simp only [hand] | simp only [hrem])
        rw [zb32]
        refine Calls.mono (len64_any n1 _ (by omega)) ?_
        rintro e w1 ⟨rfl, k1⟩
        rw [unhide HBL]
        have HK1 := hide k1
        clear k1
        have hm1 : ((m + 1 : Nat) : Int) = (m : Int) + 1 := by omega
        rw [hm1]
        go_wp2_with (first
          | (refine wpList_shl1 rfl _ _ (.tmp 32) rfl m hm64 rfl ?_; rw [unhide HPM])
          | simp only [hlm])
        obtain ⟨X, hX⟩ : ∃ X, w.alloc (.cells (zb 32) 36) = X := ⟨_, rfl⟩
        rw [hX] at HZX HSX HKX HR1 HR2 HOV HK1
        clear hX
        have HS1 := hide ((unhide HSX).old (unhide HK1))
        have HZ1 := hide ((unhide HK1).heap (unhide HZX) (by simp))
        have cb := cell_of_row _ _ 0 _ _ _ (unhide HS1).hbt
        have cs := cell_of_row _ _ 0 _ _ _ (unhide HS1).hbs
        have ct := cell_of_row _ _ 0 _ _ _ (unhide HS1).tree.row
        simp at cb cs ct
        have hbt9 : bt ≠ w.heap.size := by
          intro e
          have h1 := (unhide HSX).hbt
          rw [e, unhide HZX] at h1
          simp at h1
        have hbs9 : bs ≠ w.heap.size := by
          intro e
          have h1 := (unhide HSX).hbs
          rw [e, unhide HZX] at h1
          simp at h1
        have ht9 : t ≠ w.heap.size := by
          intro e
          have h1 := (unhide HSX).tree.row
          rw [e, unhide HZX] at h1
          simp at h1
        refine wp_rb14 (by kernel_rfl) (by kernel_rfl) (by kernel_rfl) (by kernel_rfl) (by kernel_rfl) (by kernel_rfl) (by kernel_rfl) (by kernel_rfl) (by kernel_rfl) (by kernel_rfl) (by kernel_rfl) (by kernel_rfl) (by kernel_rfl) (by kernel_rfl) (by kernel_rfl) (by kernel_rfl) (by kernel_rfl) (by kernel_rfl) (by kernel_rfl) (by kernel_rfl) (by kernel_rfl) (by kernel_rfl) (by kernel_rfl) (by kernel_rfl) (by kernel_rfl) (by kernel_rfl) (by kernel_rfl) rfl rfl rfl rfl
          (.pointer (some ⟨t, 0, none⟩)) (.pointer (some ⟨t, 0, none⟩)) (.pointer (some ⟨t, 0, none⟩)) (.int .i64 z) (sumV bt bs) (.int .u64 (lo : Int)) (.int .u64 (md : Int)) (sumV bt bs) (.int .u64 (md : Int)) (.int .u64 (hi : Int)) _ _ _ _ _ _ _ _ _ _
          (fun w' => Kept [w.heap.size] w1 w')
          (fun w' => Kept [] w1 w')
          (fun u w' => u = .agg (brow D1) ∧ Kept [] w1 w')
          (fun u y w' => u = .agg (brow D1) ∧ y = .agg (brow D2) ∧ Kept [] w1 w')
          (fun u y x w' => u = .agg (brow D1) ∧ y = .agg (brow D2) ∧ x = .agg (brow D) ∧ Kept [] w1 w')
          (fun u y x q w' => w'.heap[w.heap.size]? = some (.cells (brow D) 36 (0, 0)) ∧ Kept [w.heap.size] w1 w')
          (by simp only [Act.put, List.setIfInBounds_toArray, List.set_cons_zero, List.set_cons_succ]; rfl) (by exact Or.inl ⟨by rfl, fun W' hW' => by have h9 := hW'.cell cb (by simp; omega); go_simp⟩)
          (by simp only [Act.put, List.setIfInBounds_toArray, List.set_cons_zero, List.set_cons_succ]; rfl) (by exact Or.inl ⟨by rfl, fun W' hW' => by go_simp⟩)
          (by simp only [Act.put, List.setIfInBounds_toArray, List.set_cons_zero, List.set_cons_succ]; rfl) (by exact Or.inl ⟨by rfl, fun W' hW' => by go_simp⟩)
          (by simp only [Act.put, List.setIfInBounds_toArray, List.set_cons_zero, List.set_cons_succ]; rfl) (by exact Or.inl ⟨by rfl, fun W' hW' => by have h9 := hW'.cell ct (by simp; omega); go_simp⟩)
          (by simp only [Act.put, List.setIfInBounds_toArray, List.set_cons_zero, List.set_cons_succ]; rfl) (by exact Or.inl ⟨by rfl, fun W' hW' => by have h9 := hW'.cell cs (by simp; omega); go_simp⟩)
          (by simp only [Act.put, List.setIfInBounds_toArray, List.set_cons_zero, List.set_cons_succ]; rfl) (by exact Or.inl ⟨by rfl, fun W' hW' => by go_simp⟩)
          (by simp only [Act.put, List.setIfInBounds_toArray, List.set_cons_zero, List.set_cons_succ]; rfl) (by exact Or.inl ⟨by rfl, fun W' hW' => by go_simp⟩)
          (by simp only [Act.put, List.setIfInBounds_toArray, List.set_cons_zero, List.set_cons_succ]; rfl) (by exact Or.inl ⟨by rfl, fun W' hW' => by have h9 := hW'.cell cs (by simp; omega); go_simp⟩)
          (by simp only [Act.put, List.setIfInBounds_toArray, List.set_cons_zero, List.set_cons_succ]; rfl) (by exact Or.inl ⟨by rfl, fun W' hW' => by go_simp⟩)
          (by simp only [Act.put, List.setIfInBounds_toArray, List.set_cons_zero, List.set_cons_succ]; rfl) (by exact Or.inl ⟨by rfl, fun W' hW' => by go_simp⟩)
          (Kept.refl [] w1).drew
          ⟨fun w' h => h.mono (by simp), fun u w' h => h.2.mono (by simp), fun u y w' h => h.2.2.mono (by simp), fun u y x w' h => h.2.2.2.mono (by simp), fun u y x q w' h => h.2⟩
          (by intro w' i K hK; exact wp_callC rfl #[.pointer (some ⟨bt, 0, none⟩), .pointer (some ⟨bs, 0, none⟩)] rfl Tryd.callSum [.int .u64 (lo : Int), .int .u64 (md : Int)] rfl (unhide HR1 w' ((unhide HK1).trans i (by simp))) (fun e w2 h => ⟨_, h.1, hK _ _ ⟨rfl, i.trans h.2 (by simp)⟩⟩))
          (by rintro u w' ⟨rfl, i⟩ K hK; exact wp_callC rfl #[.pointer (some ⟨bt, 0, none⟩), .pointer (some ⟨bs, 0, none⟩)] rfl Tryd.callSum [.int .u64 (md : Int), .int .u64 (hi : Int)] rfl (unhide HR2 w' ((unhide HK1).trans i (by simp))) (fun e w2 h => ⟨_, h.1, hK _ _ ⟨rfl, rfl, i.trans h.2 (by simp)⟩⟩))
          (by
            intro u y w' hh K hK
            simp only [Act.put, List.setIfInBounds_toArray, List.set_cons_zero, List.set_cons_succ] at hK ⊢
            obtain ⟨rfl, rfl, i⟩ := hh
            exact wp_callN rfl Tryd.call54 [.int .i64 z, .agg (brow D1), .agg (brow D2)] rfl (unhide HOV w' ((unhide HK1).trans i (by simp))) (fun e w2 h => ⟨_, h.1, hK _ _ ⟨rfl, rfl, rfl, i.trans h.2 (by simp)⟩⟩))
          (by
            intro u y x w' hh K hK
            simp only [Act.put, List.setIfInBounds_toArray, List.set_cons_zero, List.set_cons_succ] at hK ⊢
            obtain ⟨rfl, rfl, rfl, i⟩ := hh
            exact wp_store_row 36 _ _ rfl w.heap.size (brow D) rfl rfl _ (zb 32) (i.heap (unhide HZ1) (by simp)) (unhide HSZ) (by rw [zb_size, brow_size, hdl]) (brow_one _) (hK undef _ ⟨setRow_heap _ _ _ _ _ _ (i.heap (unhide HZ1) (by simp)), (i.mono (by simp)).setRow (Or.inl (by simp)) _⟩))
          ?_
        rintro u y x1 q Y ⟨hrow, kY⟩
        simp only [Act.put, List.setIfInBounds_toArray, List.set_cons_zero, List.set_cons_succ]
        have HRY := hide hrow
        have HKY := hide (((unhide HKX).trans (unhide HK1) (by simp)).trans kY (by simp))
        clear hrow kY
        go_wp2_with fail
        refine bodyPost_ret (v := .agg (brow D)) ?_ rfl ⟨rfl, unhide HKY⟩
        exact results_cell_row rfl _ _ w.heap.size _ (brow D) (0, 0) _ rfl (unhide HRY) Tryd.underlying36 rfl (unhide HSZ)
      · have hA' : ((rm : Nat) : Int) ≠ 0 := by omega
        go_enter Tryd.func51, Tryd.ntmps51
        go_wp2_with (first | simp only [hsub] | simp only [hsub1] | simp only [hand] | simp only [hrem])
        rw [zb32]
        refine Calls.mono (len64_any n1 _ (by omega)) ?_
        rintro e w1 ⟨rfl, k1⟩
        rw [unhide HBL]
        have HK1 := hide k1
        clear k1
        have hm1 : ((m + 1 : Nat) : Int) = (m : Int) + 1 := by omega
        rw [hm1]
        go_wp2_with (first
          | (refine wpList_shl1 rfl _ _ (.tmp 32) rfl m hm64 rfl ?_; rw [unhide HPM])
          | simp only [hlm])
        obtain ⟨X, hX⟩ : ∃ X, w.alloc (.cells (zb 32) 36) = X := ⟨_, rfl⟩
        rw [hX] at HZX HSX HKX HR1 HR2 HOV HK1
        clear hX
        have HS1 := hide ((unhide HSX).old (unhide HK1))
        have HZ1 := hide ((unhide HK1).heap (unhide HZX) (by simp))
        have cb := cell_of_row _ _ 0 _ _ _ (unhide HS1).hbt
        have cs := cell_of_row _ _ 0 _ _ _ (unhide HS1).hbs
        have ct := cell_of_row _ _ 0 _ _ _ (unhide HS1).tree.row
        simp at cb cs ct
        have hbt9 : bt ≠ w.heap.size := by
          intro e
          have h1 := (unhide HSX).hbt
          rw [e, unhide HZX] at h1
          simp at h1
        have hbs9 : bs ≠ w.heap.size := by
          intro e
          have h1 := (unhide HSX).hbs
          rw [e, unhide HZX] at h1
          simp at h1
        have ht9 : t ≠ w.heap.size := by
          intro e
          have h1 := (unhide HSX).tree.row
          rw [e, unhide HZX] at h1
          simp at h1
        refine wp_rb14 (by kernel_rfl) (by kernel_rfl) (by kernel_rfl) (by kernel_rfl) (by kernel_rfl) (by kernel_rfl) (by kernel_rfl) (by kernel_rfl) (by kernel_rfl) (by kernel_rfl) (by kernel_rfl) (by kernel_rfl) (by kernel_rfl) (by kernel_rfl) (by kernel_rfl) (by kernel_rfl) (by kernel_rfl) (by kernel_rfl) (by kernel_rfl) (by kernel_rfl) (by kernel_rfl) (by kernel_rfl) (by kernel_rfl) (by kernel_rfl) (by kernel_rfl) (by kernel_rfl) (by kernel_rfl) rfl rfl rfl rfl
          (.pointer (some ⟨t, 0, none⟩)) (.pointer (some ⟨t, 0, none⟩)) (.pointer (some ⟨t, 0, none⟩)) (.int .i64 z) (sumV bt bs) (.int .u64 (lo : Int)) (.int .u64 (md : Int)) (sumV bt bs) (.int .u64 (md : Int)) (.int .u64 (hi : Int)) _ _ _ _ _ _ _ _ _ _
          (fun w' => Kept [w.heap.size] w1 w')
          (fun w' => Kept [] w1 w')
          (fun u w' => u = .agg (brow D1) ∧ Kept [] w1 w')
          (fun u y w' => u = .agg (brow D1) ∧ y = .agg (brow D2) ∧ Kept [] w1 w')
          (fun u y x w' => u = .agg (brow D1) ∧ y = .agg (brow D2) ∧ x = .agg (brow D) ∧ Kept [] w1 w')
          (fun u y x q w' => w'.heap[w.heap.size]? = some (.cells (brow D) 36 (0, 0)) ∧ Kept [w.heap.size] w1 w')
          (by simp only [Act.put, List.setIfInBounds_toArray, List.set_cons_zero, List.set_cons_succ]; rfl) (by exact Or.inl ⟨by rfl, fun W' hW' => by have h9 := hW'.cell cb (by simp; omega); go_simp⟩)
          (by simp only [Act.put, List.setIfInBounds_toArray, List.set_cons_zero, List.set_cons_succ]; rfl) (by exact Or.inl ⟨by rfl, fun W' hW' => by go_simp⟩)
          (by simp only [Act.put, List.setIfInBounds_toArray, List.set_cons_zero, List.set_cons_succ]; rfl) (by exact Or.inl ⟨by rfl, fun W' hW' => by go_simp⟩)
          (by simp only [Act.put, List.setIfInBounds_toArray, List.set_cons_zero, List.set_cons_succ]; rfl) (by exact Or.inl ⟨by rfl, fun W' hW' => by have h9 := hW'.cell ct (by simp; omega); go_simp⟩)
          (by simp only [Act.put, List.setIfInBounds_toArray, List.set_cons_zero, List.set_cons_succ]; rfl) (by exact Or.inl ⟨by rfl, fun W' hW' => by have h9 := hW'.cell cs (by simp; omega); go_simp⟩)
          (by simp only [Act.put, List.setIfInBounds_toArray, List.set_cons_zero, List.set_cons_succ]; rfl) (by exact Or.inl ⟨by rfl, fun W' hW' => by go_simp⟩)
          (by simp only [Act.put, List.setIfInBounds_toArray, List.set_cons_zero, List.set_cons_succ]; rfl) (by exact Or.inl ⟨by rfl, fun W' hW' => by go_simp⟩)
          (by simp only [Act.put, List.setIfInBounds_toArray, List.set_cons_zero, List.set_cons_succ]; rfl) (by exact Or.inl ⟨by rfl, fun W' hW' => by have h9 := hW'.cell cs (by simp; omega); go_simp⟩)
          (by simp only [Act.put, List.setIfInBounds_toArray, List.set_cons_zero, List.set_cons_succ]; rfl) (by exact Or.inl ⟨by rfl, fun W' hW' => by go_simp⟩)
          (by simp only [Act.put, List.setIfInBounds_toArray, List.set_cons_zero, List.set_cons_succ]; rfl) (by exact Or.inl ⟨by rfl, fun W' hW' => by go_simp⟩)
          (Kept.refl [] w1).drew
          ⟨fun w' h => h.mono (by simp), fun u w' h => h.2.mono (by simp), fun u y w' h => h.2.2.mono (by simp), fun u y x w' h => h.2.2.2.mono (by simp), fun u y x q w' h => h.2⟩
          (by intro w' i K hK; exact wp_callC rfl #[.pointer (some ⟨bt, 0, none⟩), .pointer (some ⟨bs, 0, none⟩)] rfl Tryd.callSum [.int .u64 (lo : Int), .int .u64 (md : Int)] rfl (unhide HR1 w' ((unhide HK1).trans i (by simp))) (fun e w2 h => ⟨_, h.1, hK _ _ ⟨rfl, i.trans h.2 (by simp)⟩⟩))
          (by rintro u w' ⟨rfl, i⟩ K hK; exact wp_callC rfl #[.pointer (some ⟨bt, 0, none⟩), .pointer (some ⟨bs, 0, none⟩)] rfl Tryd.callSum [.int .u64 (md : Int), .int .u64 (hi : Int)] rfl (unhide HR2 w' ((unhide HK1).trans i (by simp))) (fun e w2 h => ⟨_, h.1, hK _ _ ⟨rfl, rfl, i.trans h.2 (by simp)⟩⟩))
          (by
            intro u y w' hh K hK
            simp only [Act.put, List.setIfInBounds_toArray, List.set_cons_zero, List.set_cons_succ] at hK ⊢
            obtain ⟨rfl, rfl, i⟩ := hh
            exact wp_callN rfl Tryd.call54 [.int .i64 z, .agg (brow D1), .agg (brow D2)] rfl (unhide HOV w' ((unhide HK1).trans i (by simp))) (fun e w2 h => ⟨_, h.1, hK _ _ ⟨rfl, rfl, rfl, i.trans h.2 (by simp)⟩⟩))
          (by
            intro u y x w' hh K hK
            simp only [Act.put, List.setIfInBounds_toArray, List.set_cons_zero, List.set_cons_succ] at hK ⊢
            obtain ⟨rfl, rfl, rfl, i⟩ := hh
            exact wp_store_row 36 _ _ rfl w.heap.size (brow D) rfl rfl _ (zb 32) (i.heap (unhide HZ1) (by simp)) (unhide HSZ) (by rw [zb_size, brow_size, hdl]) (brow_one _) (hK undef _ ⟨setRow_heap _ _ _ _ _ _ (i.heap (unhide HZ1) (by simp)), (i.mono (by simp)).setRow (Or.inl (by simp)) _⟩))
          ?_
        rintro u y x1 q Y ⟨hrow, kY⟩
        simp only [Act.put, List.setIfInBounds_toArray, List.set_cons_zero, List.set_cons_succ]
        have HRY := hide hrow
        have HKY := hide (((unhide HKX).trans (unhide HK1) (by simp)).trans kY (by simp))
        clear hrow kY
        go_wp2_with fail
        refine bodyPost_ret (v := .agg (brow D)) ?_ rfl ⟨rfl, unhide HKY⟩
        exact results_cell_row rfl _ _ w.heap.size _ (brow D) (0, 0) _ rfl (unhide HRY) Tryd.underlying36 rfl (unhide HSZ)
end Go.Proofs.YtfajlfcomhjnkaaDoor
namespace Go.Proofs.YtfajlfcomhjnkaaDoor
open Go.RowKit Go.BigFrame
set_option linter.unusedVariables false
set_option linter.unusedSimpArgs false

/-- The digest of no leaves. -/
def noT (z : Int) : List Nat := sumD z []
theorem noT_dg (z : Int) : Dg (noT z) := by
  unfold noT sumD
  by_cases h : widthB z = true
  · rw [if_pos h]
    have hw := width_le h
    exact ⟨cutL_len z.toNat (hash []) (by omega) (hash_len []), cutL_byte z.toNat (hash []) (hash_byte [])⟩
  · rw [if_neg h]
    exact ⟨by simp, by simp⟩
theorem noT_form {z : Int} (hw : widthB z = true) : formB z (noT z) = true := by
  unfold noT sumD
  rw [if_pos hw]
  have hz := width_le hw
  unfold formB
  simp only [hw, Bool.true_and, decide_eq_true_eq]
  exact cutL_cutL _ _ (by rw [hash_len]; omega)
theorem rngD_self (z : Int) (no : List Nat) (L : List (List Nat)) (lo : Nat) : rngD z no L lo lo = no := by
  unfold rngD; rw [Nat.sub_self, List.take_zero]; exact logT_nil z no

theorem alloc2_at (w : World) (a b : Obj) : ((w.alloc a).alloc b).heap[w.heap.size + 1]? = some b := by
  have := heap_alloc_new (w.alloc a) b
  simpa using this

set_option maxRecDepth 100000 in
set_option maxHeartbeats 400000 in
theorem rangeT_nil (lo hi : Int) (w : World) :
    Calls Tryd.prog 34 #[.pointer none, .int .u64 lo, .int .u64 hi] w fun e w' => e = .returned (.tuple #[.agg (zb 32), .int .i64 5]) ∧ Kept [] w w' := by
  have HZ := hide (alloc2_at w (.cells #[.pointer none] 25) (.cells (zb 32) 36))
  have HK := hide ((((Kept.refl [] w).alloc (.cells #[.pointer none] 25)).alloc (.cells (zb 32) 36)).setRow (g := w.heap.size + 1) (Or.inr (by omega)) (zb 32))
  go_enter Tryd.func34, Tryd.ntmps34
  go_wp2_with (rw [zb32]; refine wpList_store_row rfl 36 (.tmp 6) _ rfl (w.heap.size + 1) (zb 32) rfl rfl _ (zb 32) (unhide HZ) (by rw [zb_size]; exact Tryd.size_dig) rfl (brow_one _) ?_)
  refine bodyPost_ret (v := .tuple #[.agg (zb 32), .int .i64 5]) ?_ rfl ⟨rfl, unhide HK⟩
  exact results_cell_tmp rfl _ _ (w.heap.size + 1) _ (zb 32) (0, 0) _ rfl (setRow_heap _ _ _ _ _ _ (unhide HZ)) Tryd.underlying36 rfl (by rw [zb_size]; exact Tryd.size_dig) _ rfl

set_option maxRecDepth 100000 in
set_option maxHeartbeats 400000 in
theorem rangeT_bad (z : Int) (t : Nat) (v : Value) (ps : List Pk) (lo hi : Int) (w : World) (hT : TreeAt z w t v ps) (hbad : hi < lo ∨ ((leavesK ps).length : Int) < hi) :
    Calls Tryd.prog 34 #[.pointer (some ⟨t, 0, none⟩), .int .u64 lo, .int .u64 hi] w fun e w' => e = .returned (.tuple #[.agg (zb 32), .int .i64 4]) ∧ Kept [] w w' := by
  have c1 := cell_of_row _ _ 1 _ _ _ hT.row
  simp at c1
  have k0 := ((Kept.refl [] w).alloc (.cells #[.pointer (some ⟨t, 0, none⟩)] 25)).alloc (.cells (zb 32) 36)
  have d1 := k0.cell c1 (by simp)
  obtain ⟨n, hn⟩ : ∃ n, (leavesK ps).length = n := ⟨_, rfl⟩
  rw [hn] at d1 hbad
  have HZ := hide (alloc2_at w (.cells #[.pointer (some ⟨t, 0, none⟩)] 25) (.cells (zb 32) 36))
  have HK := hide (k0.setRow (g := w.heap.size + 1) (Or.inr (by omega)) (zb 32))
  rw [← zb32] at d1
  clear c1 k0 hT
  by_cases h1 : hi < lo
  · go_enter Tryd.func34, Tryd.ntmps34
    go_wp2_with (rw [zb32]; refine wpList_store_row rfl 36 (.tmp 6) _ rfl (w.heap.size + 1) (zb 32) rfl rfl _ (zb 32) (unhide HZ) (by rw [zb_size]; exact Tryd.size_dig) rfl (brow_one _) ?_)
    refine bodyPost_ret (v := .tuple #[.agg (zb 32), .int .i64 4]) ?_ rfl ⟨rfl, unhide HK⟩
    exact results_cell_tmp rfl _ _ (w.heap.size + 1) _ (zb 32) (0, 0) _ rfl (setRow_heap _ _ _ _ _ _ (unhide HZ)) Tryd.underlying36 rfl (by rw [zb_size]; exact Tryd.size_dig) _ rfl
  · have h2 : (n : Int) < hi := by omega
    go_enter Tryd.func34, Tryd.ntmps34
    go_wp2_with (rw [zb32]; refine wpList_store_row rfl 36 (.tmp 6) _ rfl (w.heap.size + 1) (zb 32) rfl rfl _ (zb 32) (unhide HZ) (by rw [zb_size]; exact Tryd.size_dig) rfl (brow_one _) ?_)
    refine bodyPost_ret (v := .tuple #[.agg (zb 32), .int .i64 4]) ?_ rfl ⟨rfl, unhide HK⟩
    exact results_cell_tmp rfl _ _ (w.heap.size + 1) _ (zb 32) (0, 0) _ rfl (setRow_heap _ _ _ _ _ _ (unhide HZ)) Tryd.underlying36 rfl (by rw [zb_size]; exact Tryd.size_dig) _ rfl

set_option maxRecDepth 100000 in
set_option maxHeartbeats 400000 in
theorem rangeT_self (z : Int) (t : Nat) (v : Value) (ps : List Pk) (lo : Nat) (w : World) (hT : TreeAt z w t v ps) (hhn : lo ≤ (leavesK ps).length) (hTb : Tabs w) :
    Calls Tryd.prog 34 #[.pointer (some ⟨t, 0, none⟩), .int .u64 lo, .int .u64 lo] w fun e w' => e = .returned (.tuple #[.agg (brow (noT z)), .int .i64 0]) ∧ Kept [] w w' := by
  have c1 := cell_of_row _ _ 1 _ _ _ hT.row
  have c0 := cell_of_row _ _ 0 _ _ _ hT.row
  simp at c0 c1
  have hz := width_le hT.wid
  have k0 := ((Kept.refl [] w).alloc (.cells #[.pointer (some ⟨t, 0, none⟩)] 25)).alloc (.cells (zb 32) 36)
  have d1 := k0.cell c1 (by simp)
  have d0 := k0.cell c0 (by simp)
  obtain ⟨n, hn⟩ : ∃ n, (leavesK ps).length = n := ⟨_, rfl⟩
  rw [hn] at d1 hhn
  have hll : ¬ (n : Int) < lo := by omega
  have hlr : ¬ (lo : Int) < lo := by omega
  have HZ := hide (alloc2_at w (.cells #[.pointer (some ⟨t, 0, none⟩)] 25) (.cells (zb 32) 36))
  have HK0 := hide k0
  have HNO := hide (by
    have h9 := nolog_all z _ (by omega) (hTb.kept k0 (by simp) (by simp))
    rw [show sumE z = 0 from if_pos hT.wid] at h9
    exact h9 : Calls Tryd.prog 50 #[.int .i64 z] ((w.alloc (.cells #[.pointer (some ⟨t, 0, none⟩)] 25)).alloc (.cells (zb 32) 36)) fun e w' => e = .returned (.tuple #[.agg (brow (noT z)), .int .i64 ((0 : Nat) : Int)]) ∧ Kept [] _ w')
  have hdl := (noT_dg z).1
  generalize noT z = D at HNO hdl ⊢
  rw [← zb32] at d1 d0
  clear c1 c0 k0 hT
  go_enter Tryd.func34, Tryd.ntmps34
  go_wp2_with fail
  rw [zb32]
  refine (unhide HNO).mono ?_
  rintro e w2 ⟨rfl, k2⟩
  have HZ2 := hide (k2.heap (unhide HZ) (by simp))
  have HK2 := hide (((unhide HK0).trans k2 (by simp)).setRow (g := w.heap.size + 1) (Or.inr (by omega)) (brow D))
  clear k2
  go_wp2_with (refine wpList_store_row rfl 36 (.tmp 6) _ rfl (w.heap.size + 1) (brow D) rfl rfl _ (zb 32) (unhide HZ2) (by rw [brow_size, hdl]; exact Tryd.size_dig) (by rw [zb_size, brow_size, hdl]) (brow_one _) ?_)
  refine bodyPost_ret (v := .tuple #[.agg (brow D), .int .i64 0]) ?_ rfl ⟨rfl, unhide HK2⟩
  exact results_cell_tmp rfl _ _ (w.heap.size + 1) _ (brow D) (0, 0) _ rfl (setRow_heap _ _ _ _ _ _ (unhide HZ2)) Tryd.underlying36 rfl (by rw [brow_size, hdl]; exact Tryd.size_dig) _ rfl

set_option maxRecDepth 100000 in
set_option maxHeartbeats 400000 in
theorem rangeT_any (z : Int) (t : Nat) (v : Value) (ps : List Pk) (lo hi : Nat) (w : World) (hT : TreeAt z w t v ps) (hlh : lo < hi) (hhn : hi ≤ (leavesK ps).length) (hb : (leavesK ps).length < 32768) (hTb : Tabs w) (h6 : Tab6 w) :
    Calls Tryd.prog 34 #[.pointer (some ⟨t, 0, none⟩), .int .u64 lo, .int .u64 hi] w fun e w' => e = .returned (.tuple #[.agg (brow (rngD z (noT z) (leavesK ps) lo hi)), .int .i64 0]) ∧ Kept [] w w' := by
  have c1 := cell_of_row _ _ 1 _ _ _ hT.row
  simp at c1
  have hlh1 : ¬ (hi : Int) < lo := by omega
  have hhn1 : ¬ ((leavesK ps).length : Int) < hi := by omega
  have hne1 : ¬ (lo : Int) = hi := by omega
  have k0 := ((Kept.refl [] w).alloc (.cells #[.pointer (some ⟨t, 0, none⟩)] 25)).alloc (.cells (zb 32) 36)
  have d1 := k0.cell c1 (by simp)
  rw [← zb32] at d1
  have G3 := alloc3_at w (.cells #[.pointer (some ⟨t, 0, none⟩)] 25) (.cells (zb 32) 36) (.cells #[.nilFunc] 86)
  have cS := cell_of_row _ _ 0 _ _ _ G3
  have fS := frozen_of_row _ _ 0 _ _ G3
  rw [show (#[Value.nilFunc] : Array Value)[0]? = some .nilFunc from rfl] at cS
  have k2 := k0.alloc (.cells #[sumV w.heap.size (w.heap.size + 1 + 1)] 86)
  have G4 := alloc3_at w (.cells #[.pointer (some ⟨t, 0, none⟩)] 25) (.cells (zb 32) 36) (.cells #[sumV w.heap.size (w.heap.size + 1 + 1)] 86)
  have GT := (((Kept.refl [] (w.alloc (.cells #[.pointer (some ⟨t, 0, none⟩)] 25))).alloc (.cells (zb 32) 36)).alloc (.cells #[sumV w.heap.size (w.heap.size + 1 + 1)] 86)).heap (heap_alloc_new w (.cells #[.pointer (some ⟨t, 0, none⟩)] 25)) (by simp)
  have GZ := ((Kept.refl [] ((w.alloc (.cells #[.pointer (some ⟨t, 0, none⟩)] 25)).alloc (.cells (zb 32) 36))).alloc (.cells #[sumV w.heap.size (w.heap.size + 1 + 1)] 86)).heap (alloc2_at w (.cells #[.pointer (some ⟨t, 0, none⟩)] 25) (.cells (zb 32) 36)) (by simp)
  have HSW := hide (⟨hT.old k2, GT, G4, hTb.kept k2 (by simp) (by simp), h6.kept k2⟩ : SumW z t v ps w.heap.size (w.heap.size + 1 + 1) _)
  have HGZ := hide GZ
  have HK2 := hide k2
  have hdl := (log_dg z (noT z) (((leavesK ps).drop lo).take (hi - lo)) (noT_dg z) (fun d hd => (hT.pk.leaves d (List.mem_of_mem_drop (List.mem_of_mem_take hd))).1)).1
  have HSM := hide (sumT_any z (noT z) (noT_dg z) (noT_form hT.wid) t v ps w.heap.size (w.heap.size + 1 + 1) (hi - lo) lo hi _ (Nat.le_refl _) hlh hhn hb (unhide HSW))
  obtain ⟨n, hn⟩ : ∃ n, (leavesK ps).length = n := ⟨_, rfl⟩
  rw [hn] at d1 hhn1
  obtain ⟨D, hD⟩ : ∃ D, rngD z (noT z) (leavesK ps) lo hi = D := ⟨_, rfl⟩
  have hdl2 : D.length = 32 := by rw [← hD]; exact hdl
  rw [hD] at HSM ⊢
  unfold sumV at HSM HK2 HGZ
  rw [← zb32] at cS fS
  clear c1 k0 k2 G3 G4 GT GZ hT hTb h6 hD HSW hdl hn hhn hb hlh
  go_enter Tryd.func34, Tryd.ntmps34
  go_wp2_with (rw [run_store _ _ _ _ _ (by rfl), cS]; simp only [fS, Bool.false_eq_true, if_false, Result.andThen_ok])
  rw [zb32]
  refine (unhide HSM).mono ?_
  rintro e w5 ⟨rfl, k5⟩
  have HZ5 := hide (k5.heap (unhide HGZ) (by simp))
  have HK5 := hide (((unhide HK2).trans k5 (by simp)).setRow (g := w.heap.size + 1) (Or.inr (by omega)) (brow D))
  clear k5 cS fS
  go_wp2_with (refine wpList_store_row rfl 36 (.tmp 6) _ rfl (w.heap.size + 1) (brow D) rfl rfl _ (zb 32) (unhide HZ5) (by rw [brow_size, hdl2]; exact Tryd.size_dig) (by rw [zb_size, brow_size, hdl2]) (brow_one _) ?_)
  refine bodyPost_ret (v := .tuple #[.agg (brow D), .int .i64 0]) ?_ rfl ⟨rfl, unhide HK5⟩
  exact results_cell_tmp rfl _ _ (w.heap.size + 1) _ (brow D) (0, 0) _ rfl (setRow_heap _ _ _ _ _ _ (unhide HZ5)) Tryd.underlying36 rfl (by rw [brow_size, hdl2]; exact Tryd.size_dig) _ rfl

/-- What Range answers: the digest and the error. -/
def rgD (z : Int) (L : List (List Nat)) (lo hi : Nat) : List Nat := if hi < lo ∨ L.length < hi then List.replicate 32 0 else rngD z (noT z) L lo hi
def rgE (L : List (List Nat)) (lo hi : Nat) : Int := if hi < lo ∨ L.length < hi then 4 else 0
theorem rangeT_all (z : Int) (t : Nat) (v : Value) (ps : List Pk) (lo hi : Nat) (w : World) (hT : TreeAt z w t v ps) (hb : (leavesK ps).length < 32768) (hTb : Tabs w) (h6 : Tab6 w) :
    Calls Tryd.prog 34 #[.pointer (some ⟨t, 0, none⟩), .int .u64 lo, .int .u64 hi] w fun e w' => e = .returned (.tuple #[.agg (brow (rgD z (leavesK ps) lo hi)), .int .i64 (rgE (leavesK ps) lo hi)]) ∧ Kept [] w w' := by
  unfold rgD rgE
  by_cases h : hi < lo ∨ (leavesK ps).length < hi
  · rw [if_pos h, if_pos h]
    exact rangeT_bad z t v ps lo hi w hT (by omega)
  · rw [if_neg h, if_neg h]
    rcases (by omega : lo = hi ∨ lo < hi) with rfl | h2
    · rw [rngD_self]
      exact rangeT_self z t v ps lo w hT (by omega) hTb
    · exact rangeT_any z t v ps lo hi w hT h2 (by omega) hb hTb h6
theorem rgD_len {z : Int} {w : World} {ps : List Pk} (h : PKs z w ps) (lo hi : Nat) : Dg (rgD z (leavesK ps) lo hi) := by
  unfold rgD
  split
  · exact ⟨by simp, by simp⟩
  · exact log_dg z (noT z) _ (noT_dg z) (fun d hd => (h.leaves d (List.mem_of_mem_drop (List.mem_of_mem_take hd))).1)

set_option maxRecDepth 100000 in
set_option maxHeartbeats 400000 in
theorem rootT_all (z : Int) (t : Nat) (v : Value) (ps : List Pk) (n : Nat) (w : World) (hT : TreeAt z w t v ps) (hb : (leavesK ps).length < 32768) (hTb : Tabs w) (h6 : Tab6 w) :
    Calls Tryd.prog 18 #[.pointer (some ⟨t, 0, none⟩), .int .u64 n] w fun e w' => e = .returned (.tuple #[.agg (brow (rgD z (leavesK ps) 0 n)), .int .i64 (rgE (leavesK ps) 0 n)]) ∧ Kept [] w w' := by
  have hdl := (rgD_len hT.pk 0 n).1
  have k0 := (Kept.refl [] w).alloc (.cells (zb 32) 36)
  have HR := hide (rangeT_all z t v ps 0 n _ (hT.old k0) hb (hTb.kept k0 (by simp) (by simp)) (h6.kept k0))
  have HZ := hide (heap_alloc_new w (.cells (zb 32) 36))
  have HK := hide k0
  generalize rgD z (leavesK ps) 0 n = D at HR hdl ⊢
  generalize rgE (leavesK ps) 0 n = E at HR ⊢
  clear k0 hT
  go_enter Tryd.func18, Tryd.ntmps18
  go_wp2_with fail
  rw [zb32]
  refine (unhide HR).mono ?_
  rintro e w5 ⟨rfl, k5⟩
  have HZ5 := hide (k5.heap (unhide HZ) (by simp))
  have HK5 := hide (((unhide HK).trans k5 (by simp)).setRow (g := w.heap.size) (Or.inr (Nat.le_refl _)) (brow D))
  clear k5
  go_wp2_with (refine wpList_store_row rfl 36 _ _ rfl w.heap.size (brow D) rfl rfl _ (zb 32) (unhide HZ5) (by rw [brow_size, hdl]; exact Tryd.size_dig) (by rw [zb_size, brow_size, hdl]) (brow_one _) ?_)
  refine bodyPost_ret (v := .tuple #[.agg (brow D), .int .i64 E]) ?_ rfl ⟨rfl, unhide HK5⟩
  exact results_cell_tmp rfl _ _ w.heap.size _ (brow D) (0, 0) _ rfl (setRow_heap _ _ _ _ _ _ (unhide HZ5)) Tryd.underlying36 rfl (by rw [brow_size, hdl]; exact Tryd.size_dig) _ rfl

set_option maxRecDepth 100000 in
set_option maxHeartbeats 400000 in
theorem rootT_nil (n : Int) (w : World) :
    Calls Tryd.prog 18 #[.pointer none, .int .u64 n] w fun e w' => e = .returned (.tuple #[.agg (zb 32), .int .i64 5]) ∧ Kept [] w w' := by
  have HZ := hide (heap_alloc_new w (.cells (zb 32) 36))
  have HK := hide ((Kept.refl [] w).alloc (.cells (zb 32) 36))
  go_enter Tryd.func18, Tryd.ntmps18
  go_wp2_with fail
  rw [zb32]
  refine (rangeT_nil 0 n _).mono ?_
  rintro e w5 ⟨rfl, k5⟩
  have HZ5 := hide (k5.heap (unhide HZ) (by simp))
  have HK5 := hide (((unhide HK).trans k5 (by simp)).setRow (g := w.heap.size) (Or.inr (Nat.le_refl _)) (zb 32))
  clear k5
  go_wp2_with (refine wpList_store_row rfl 36 _ _ rfl w.heap.size (zb 32) rfl rfl _ (zb 32) (unhide HZ5) (by rw [zb_size]; exact Tryd.size_dig) rfl (brow_one _) ?_)
  refine bodyPost_ret (v := .tuple #[.agg (zb 32), .int .i64 5]) ?_ rfl ⟨rfl, unhide HK5⟩
  exact results_cell_tmp rfl _ _ w.heap.size _ (zb 32) (0, 0) _ rfl (setRow_heap _ _ _ _ _ _ (unhide HZ5)) Tryd.underlying36 rfl (by rw [zb_size]; exact Tryd.size_dig) _ rfl
end Go.Proofs.YtfajlfcomhjnkaaDoor
namespace Go.Proofs.YtfajlfcomhjnkaaDoor
open Go.RowKit Go.BigFrame
set_option linter.unusedVariables false
set_option linter.unusedSimpArgs false

/-- A list of ranges in memory of its own. -/
def SpAt (w0 w : World) (v : Value) (ss : List (Nat × Nat)) : Prop := ∃ base, w0.heap.size ≤ base ∧ w.ownsRow base 80 2 v ss.length (cellsS ss)
theorem SpAt.form {w0 w : World} {v : Value} {ss : List (Nat × Nat)} (h : SpAt w0 w v ss) : ∃ ao cap, v = .slice ao ss.length cap := by
  obtain ⟨base, _, h⟩ := h
  rcases h.2 with ⟨rfl, h0⟩ | ⟨g, cap, cur, rfl, _⟩
  · exact ⟨none, 0, by rw [h0]⟩
  · exact ⟨_, cap, rfl⟩
theorem SpAt.old {w0 w w' : World} {v : Value} {ss : List (Nat × Nat)} (h : SpAt w0 w v ss) (k : Kept [] w w') : SpAt w0 w' v ss := by
  obtain ⟨base, hb, h⟩ := h
  exact ⟨base, hb, k.owns h (by simp)⟩

set_option maxRecDepth 100000 in
set_option maxHeartbeats 1000000 in
theorem path_any (i n : Nat) (w : World) (hi : i < n) (hn : n < 18446744073709551616) :
    Calls Tryd.prog 33 #[.int .u64 i, .int .u64 n] w fun e w' => ∃ v, e = .returned v ∧ SpAt w w' v (pathF i 64 0 n) ∧ Kept [] w w' := by
  have k0 := ((Kept.refl [] w).alloc (.cells #[.int .u64 (i : Int)] 23)).alloc (.cells #[.slice none 0 0] 56)
  have G3 := alloc3_at w (.cells #[.int .u64 (i : Int)] 23) (.cells #[.slice none 0 0] 56) (.cells #[.nilFunc] 84)
  have cS := cell_of_row _ _ 0 _ _ _ G3
  have fS := frozen_of_row _ _ 0 _ _ G3
  rw [show (#[Value.nilFunc] : Array Value)[0]? = some .nilFunc from rfl] at cS
  have k2 := k0.alloc (.cells #[pathV w.heap.size (w.heap.size + 1 + 1) (w.heap.size + 1)] 84)
  have G4 := alloc3_at w (.cells #[.int .u64 (i : Int)] 23) (.cells #[.slice none 0 0] 56) (.cells #[pathV w.heap.size (w.heap.size + 1 + 1) (w.heap.size + 1)] 84)
  have GT := (((Kept.refl [] (w.alloc (.cells #[.int .u64 (i : Int)] 23))).alloc (.cells #[.slice none 0 0] 56)).alloc (.cells #[pathV w.heap.size (w.heap.size + 1 + 1) (w.heap.size + 1)] 84)).heap (heap_alloc_new w (.cells #[.int .u64 (i : Int)] 23)) (by simp)
  have GZ := ((Kept.refl [] ((w.alloc (.cells #[.int .u64 (i : Int)] 23)).alloc (.cells #[.slice none 0 0] 56))).alloc (.cells #[pathV w.heap.size (w.heap.size + 1 + 1) (w.heap.size + 1)] 84)).heap (alloc2_at w (.cells #[.int .u64 (i : Int)] 23) (.cells #[.slice none 0 0] 56)) (by simp)
  obtain ⟨X, hX⟩ : ∃ X, ((w.alloc (.cells #[.int .u64 (i : Int)] 23)).alloc (.cells #[.slice none 0 0] 56)).alloc (.cells #[pathV w.heap.size (w.heap.size + 1 + 1) (w.heap.size + 1)] 84) = X := ⟨_, rfl⟩
  have hsz : X.heap.size = w.heap.size + 3 := by rw [← hX]; simp
  rw [hX] at k2 G4 GT GZ
  have HL := (⟨Kept.refl _ _, GZ, World.ownsRow_nil _ _ _ _, by omega⟩ : Lst X (w.heap.size + 1) [] X (.slice none 0 0))
  have HP := (⟨G4, GT, ⟨by omega, by omega⟩, ⟨by omega, by omega⟩⟩ : PathW w.heap.size (w.heap.size + 1 + 1) i (w.heap.size + 1) X X)
  have HC := hide (pathC_any X w.heap.size (w.heap.size + 1 + 1) (w.heap.size + 1) i 64 0 n [] (.slice none 0 0) X (by omega) (by omega) hn (by simp) HL HP)
  have HX := hide (by rw [hsz]; omega : w.heap.size ≤ X.heap.size)
  have HK := hide k2
  rw [List.nil_append] at HC
  unfold pathV at hX
  have HXE := hide hX
  clear k0 k2 G3 G4 GT GZ HL HP hX hsz
  go_enter Tryd.func33, Tryd.ntmps33
  go_wp2_with (rw [run_store _ _ _ _ _ (by rfl), cS]; simp only [fS, Bool.false_eq_true, if_false, Result.andThen_ok])
  rw [unhide HXE]
  refine (unhide HC).mono ?_
  rintro e w5 ⟨rfl, u, l5, _⟩
  have cu := cell_of_row _ _ 0 _ _ _ l5.row
  simp at cu
  have HL5 := hide l5
  clear l5 cS fS HC
  go_wp2_with fail
  go_ret
  exact ⟨u, rfl, ⟨_, unhide HX, (unhide HL5).own⟩, (unhide HK).trans (unhide HL5).kept (by intro x hx; right; simp at hx; omega)⟩
end Go.Proofs.YtfajlfcomhjnkaaDoor
namespace Go.Proofs.YtfajlfcomhjnkaaDoor
open Go.RowKit Go.BigFrame
set_option linter.unusedVariables false
set_option linter.unusedSimpArgs false

/-- The ranges of a consistency proof of m and n. -/
def smL (m n : Nat) : List (Nat × Nat) := if m = 0 ∨ m = n then [] else seamF m 64 0 n true

set_option maxRecDepth 100000 in
set_option maxHeartbeats 1000000 in
theorem seam_any (m n : Nat) (w : World) (hm : m ≤ n) (hn : n < 18446744073709551616) :
    Calls Tryd.prog 29 #[.int .u64 m, .int .u64 n] w fun e w' => ∃ v, e = .returned v ∧ SpAt w w' v (smL m n) ∧ Kept [] w w' := by
  have c1 := cell_of_row _ _ 0 _ _ _ (heap_alloc_new w (.cells #[.int .u64 (m : Int)] 23))
  simp at c1
  by_cases h0 : m = 0
  · subst h0
    go_enter Tryd.func29, Tryd.ntmps29
    go_wp2_with fail
    go_ret
    exact ⟨_, rfl, ⟨_, Nat.le_refl _, by unfold smL; rw [if_pos (by simp)]; exact World.ownsRow_nil _ _ _ _⟩, (Kept.refl [] w).alloc _⟩
  · have h0' : ¬ (m : Int) = 0 := by omega
    by_cases h1 : m = n
    · subst h1
      go_enter Tryd.func29, Tryd.ntmps29
      go_wp2_with fail
      go_ret
      exact ⟨_, rfl, ⟨_, Nat.le_refl _, by unfold smL; rw [if_pos (by simp)]; exact World.ownsRow_nil _ _ _ _⟩, (Kept.refl [] w).alloc _⟩
    · have h1' : ¬ (m : Int) = (n : Int) := by omega
      have hb0 : ((m : Int) == 0) = false := by simp; omega
      have hb1 : ((m : Int) == (n : Int)) = false := by simp; omega
      have HSM := hide (by unfold smL; rw [if_neg (by omega)] : smL m n = seamF m 64 0 n true)
      have k0 := ((Kept.refl [] w).alloc (.cells #[.int .u64 (m : Int)] 23)).alloc (.cells #[.slice none 0 0] 56)
      have G3 := alloc3_at w (.cells #[.int .u64 (m : Int)] 23) (.cells #[.slice none 0 0] 56) (.cells #[.nilFunc] 81)
      have cS := cell_of_row _ _ 0 _ _ _ G3
      have fS := frozen_of_row _ _ 0 _ _ G3
      rw [show (#[Value.nilFunc] : Array Value)[0]? = some .nilFunc from rfl] at cS
      have k2 := k0.alloc (.cells #[seamV w.heap.size (w.heap.size + 1) (w.heap.size + 1 + 1)] 81)
      have G4 := alloc3_at w (.cells #[.int .u64 (m : Int)] 23) (.cells #[.slice none 0 0] 56) (.cells #[seamV w.heap.size (w.heap.size + 1) (w.heap.size + 1 + 1)] 81)
      have GT := (((Kept.refl [] (w.alloc (.cells #[.int .u64 (m : Int)] 23))).alloc (.cells #[.slice none 0 0] 56)).alloc (.cells #[seamV w.heap.size (w.heap.size + 1) (w.heap.size + 1 + 1)] 81)).heap (heap_alloc_new w (.cells #[.int .u64 (m : Int)] 23)) (by simp)
      have GZ := ((Kept.refl [] ((w.alloc (.cells #[.int .u64 (m : Int)] 23)).alloc (.cells #[.slice none 0 0] 56))).alloc (.cells #[seamV w.heap.size (w.heap.size + 1) (w.heap.size + 1 + 1)] 81)).heap (alloc2_at w (.cells #[.int .u64 (m : Int)] 23) (.cells #[.slice none 0 0] 56)) (by simp)
      obtain ⟨X, hX⟩ : ∃ X, ((w.alloc (.cells #[.int .u64 (m : Int)] 23)).alloc (.cells #[.slice none 0 0] 56)).alloc (.cells #[seamV w.heap.size (w.heap.size + 1) (w.heap.size + 1 + 1)] 81) = X := ⟨_, rfl⟩
      have hsz : X.heap.size = w.heap.size + 3 := by rw [← hX]; simp
      rw [hX] at k2 G4 GT GZ
      have HL := (⟨Kept.refl _ _, GZ, World.ownsRow_nil _ _ _ _, by omega⟩ : Lst X (w.heap.size + 1) [] X (.slice none 0 0))
      have HP := (⟨G4, GT, ⟨by omega, by omega⟩, ⟨by omega, by omega⟩⟩ : SeamW w.heap.size (w.heap.size + 1 + 1) m (w.heap.size + 1) X X)
      have HC := hide (seamC_any X w.heap.size (w.heap.size + 1 + 1) (w.heap.size + 1) m 64 0 n true [] (.slice none 0 0) X (by omega) (by omega) (by omega) hn (by simp) HL HP)
      have HX := hide (by rw [hsz]; omega : w.heap.size ≤ X.heap.size)
      have HK := hide k2
      rw [List.nil_append] at HC
      unfold seamV at hX
      have HXE := hide hX
      clear k0 k2 G3 G4 GT GZ HL HP hX hsz
      go_enter Tryd.func29, Tryd.ntmps29
      go_wp2_with (first | (simp only [hb0, hb1, Bool.or_self]) | (rw [run_store _ _ _ _ _ (by rfl), cS]; simp only [fS, Bool.false_eq_true, if_false, Result.andThen_ok]))
      rw [unhide HXE]
      refine (unhide HC).mono ?_
      rintro e w5 ⟨rfl, u, l5, _⟩
      have cu := cell_of_row _ _ 0 _ _ _ l5.row
      simp at cu
      have HL5 := hide l5
      clear l5 cS fS HC c1
      go_wp2_with fail
      go_ret
      exact ⟨u, rfl, ⟨_, unhide HX, by rw [unhide HSM]; exact (unhide HL5).own⟩, (unhide HK).trans (unhide HL5).kept (by intro x hx; right; simp at hx; omega)⟩

/-- What Counts answers. -/
def cntE (i m n : Nat) : Int := if n ≤ i ∨ n < m then 4 else 0
def cntA (i m n : Nat) : Int := if n ≤ i ∨ n < m then 0 else ((pathF i 64 0 n).length : Int)
def cntB (i m n : Nat) : Int := if n ≤ i ∨ n < m then 0 else ((smL m n).length : Int)

set_option maxRecDepth 100000 in
set_option maxHeartbeats 1000000 in
theorem counts_any (i m n : Nat) (w : World) (hi : i < 18446744073709551616) (hm : m < 18446744073709551616) (hn : n < 18446744073709551616) :
    Calls Tryd.prog 17 #[.int .u64 i, .int .u64 m, .int .u64 n] w fun e w' => e = .returned (.tuple #[.int .i64 (cntA i m n), .int .i64 (cntB i m n), .int .i64 (cntE i m n)]) ∧ Kept [] w w' := by
  unfold cntA cntB cntE
  by_cases h1 : n ≤ i
  · have h1' : (n : Int) ≤ (i : Int) := by omega
    rw [if_pos (Or.inl h1), if_pos (Or.inl h1), if_pos (Or.inl h1)]
    go_enter Tryd.func17, Tryd.ntmps17
    go_wp2_with fail
    all_goals exact ⟨rfl, _, results_tmp3 rfl _ _ _, rfl, Kept.refl _ _⟩
  · have h1' : ¬ (n : Int) ≤ (i : Int) := by omega
    by_cases h2 : n < m
    · have h2' : (n : Int) < (m : Int) := by omega
      rw [if_pos (Or.inr h2), if_pos (Or.inr h2), if_pos (Or.inr h2)]
      go_enter Tryd.func17, Tryd.ntmps17
      go_wp2_with fail
      all_goals exact ⟨rfl, _, results_tmp3 rfl _ _ _, rfl, Kept.refl _ _⟩
    · have h2' : ¬ (n : Int) < (m : Int) := by omega
      rw [if_neg (by omega), if_neg (by omega), if_neg (by omega)]
      have HSE := hide (fun W => seam_any m n W (by omega) hn)
      have HPA := hide (path_any i n w (by omega) hn)
      generalize pathF i 64 0 n = ps at HPA ⊢
      generalize smL m n = ss at HSE ⊢
      go_enter Tryd.func17, Tryd.ntmps17
      go_wp2_with fail
      refine (unhide HPA).mono ?_
      rintro e w1 ⟨v1, rfl, s1, k1⟩
      obtain ⟨a1, c1, rfl⟩ := s1.form
      have HK1 := hide k1
      clear s1 k1 HPA
      go_wp2_with fail
      refine (unhide HSE w1).mono ?_
      rintro e w2 ⟨v2, rfl, s2, k2⟩
      obtain ⟨a2, c2, rfl⟩ := s2.form
      have HK2 := hide ((unhide HK1).trans k2 (by simp))
      clear s2 k2 HSE
      go_wp2_with fail
      exact ⟨rfl, _, results_tmp3 rfl _ _ _, rfl, unhide HK2⟩
end Go.Proofs.YtfajlfcomhjnkaaDoor
/-
  A row in the midst of a block, read within a quiet walk.
-/
namespace Go.Proofs.YtfajlfcomhjnkaaDoor
open Go Go.RowKit Go.BigFrame

theorem wpQuiet_mid {P : Program} {ops : Array Oper} {C : World → Prop} {Q : Act → Prop} {a : Act} {o : Oper} {rest : List Oper} (hw : Region.wanted o (yielded ops a.tmps) = true) (ty : TypeId) (x : Operand) (ho : o.op = .load ty x)
    (b off : Nat) (hx : a.eval x = .pointer (some ⟨b, off, none⟩)) (cs : List Value) (d : TypeDesc) (hg : ∀ w, C w → w.rangeAt b off cs)
    (hu : P.underlying ty = some d) (hd : d.isRow = true) (hi : (P.info? ty).map (·.size) = some cs.length)
    (h : wpQuiet P ops C Q rest (a.put o.dst (.agg cs.toArray))) : wpQuiet P ops C Q (o :: rest) a := by
  refine wpQuiet_want hw fun K hK => ⟨.agg cs.toArray, fun w hw => ?_, hK _ h⟩
  unfold Oper.quietAt execOp
  simp only [ho]
  have := run_loadVar_mid (P := P) w b off ty cs d (hg w hw) hu hd hi
  simp only [hx, Instr.loadAt, Instr.sureAddr, Sem.run_bind, Sem.run_pure, Result.andThen_ok, this, Oper.quietUpon, and_self]
end Go.Proofs.YtfajlfcomhjnkaaDoor
namespace Go.Proofs.YtfajlfcomhjnkaaDoor
open Go.RowKit Go.BigFrame
set_option linter.unusedVariables false
set_option linter.unusedSimpArgs false

theorem RdD.upto {w : World} {ao : Option Addr} {len cap : Nat} {ds : List (List Nat)} (h : RdD w (.slice ao len cap) ds) (k : Nat) (hk : k ≤ len) : RdD w (.slice ao k cap) (ds.take k) := by
  obtain ⟨ao', len', cap', e, h1, h2, h3, h4, h5⟩ := h
  cases e
  refine ⟨ao, k, cap, rfl, by rw [List.length_take]; omega, by omega, h3, fun d hd => h4 d (List.mem_of_mem_take hd), fun hp => ?_⟩
  obtain ⟨b, off, rfl, hc⟩ := h5 (by omega)
  refine ⟨b, off, rfl, fun i hi => ?_⟩
  rw [List.getD_eq_getElem?_getD, List.getElem?_take_of_lt hi, ← List.getD_eq_getElem?_getD]
  exact hc i (by omega)
theorem RdD.dg {w : World} {v : Value} {ds : List (List Nat)} (h : RdD w v ds) {d : List Nat} (hd : d ∈ ds) : Dg d := by
  obtain ⟨ao', len', cap', e, h1, h2, h3, h4, h5⟩ := h
  exact h4 d hd
/-- What stands ahead of the last, and that one. -/
theorem last_cut {ds : List (List Nat)} {x : List Nat} {r : List (List Nat)} (h : ds.reverse = x :: r) : ds = r.reverse ++ [x] ∧ ds.length = r.length + 1 := by
  have h2 := congrArg List.reverse h
  simp only [List.reverse_reverse, List.reverse_cons] at h2
  refine ⟨h2, ?_⟩
  rw [h2]; simp

theorem results_tmp_cell {P : Program} {fn : Func} {p q : Tmp} {ty : TypeId} (h : fn.results = #[.tmp q, .cell p ty]) (tmps : Array Value) (w : World) (g : Nat) (t : TypeId) (cs : Array Value) (fr : Nat × Nat) (d : TypeDesc)
    (hp : tmps.getD p undef = .pointer (some ⟨g, 0, none⟩)) (hg : w.heap[g]? = some (.cells cs t fr))
    (hu : P.underlying ty = some d) (hd : (match d with | .struct _ | .array _ _ => true | _ => false) = true) (hi : (P.info? ty).map (·.size) = some cs.size) (v : Value) (hq : tmps.getD q undef = v) :
    (results fn tmps).run P w = .ok (.tuple #[v, .agg cs]) w := by
  have hp' : tmps[p]?.getD undef = .pointer (some ⟨g, 0, none⟩) := by simpa using hp
  have hq' : tmps[q]?.getD undef = v := by simpa using hq
  simp [results, h, hp', hq', asAddr, run_loadVar_row w g t ty cs fr d hg hu hd hi]
theorem formedE_two {z : Int} {l m : List Nat} (hw : widthB z = true) (hl : formB z l = true) (hm : formB z m = true) : formedE z [l, m] = 0 := by simp [formedE, hw, hl, hm]

set_option maxRecDepth 100000 in
set_option maxHeartbeats 1000000 in
theorem refNode_any (k : Nat) (l m : List Nat) (w : World) (hk : 1 ≤ k ∧ k ≤ 32) (hl : Dg l) (hm : Dg m) :
    Calls Tryd.prog 24 #[.int .i64 k, .agg (brow l), .agg (brow m)] w fun e w' => e = .returned (.agg (brow (nodS k l m))) ∧ Kept [] w w' := by
  have HE := hide (by unfold nodS sumD; rw [if_pos (by simp [widthB]; omega), Int.toNat_natCast] : nodS (k : Int) l m = cutL k (hash (nodeB k l m)))
  obtain ⟨D, hD⟩ : ∃ D, nodS (k : Int) l m = D := ⟨_, rfl⟩
  have hcl : D.length = 32 := by rw [← hD]; exact (nodS_dg _ l m).1
  rw [hD] at HE ⊢
  clear hD
  have HL := hide hl
  have HM := hide hm
  clear hl hm
  go_enter Tryd.func24, Tryd.ntmps24
  have HK0 := hide ((((Kept.refl [] w).alloc (.cells (brow l) 36)).alloc (.cells (brow m) 36)).alloc (.cells (zb 32) 36))
  have HGZ := hide (alloc3_at w (.cells (brow l) 36) (.cells (brow m) 36) (.cells (zb 32) 36))
  have HGM := hide (((Kept.refl [] ((w.alloc (.cells (brow l) 36)).alloc (.cells (brow m) 36))).alloc (.cells (zb 32) 36)).heap (alloc_at w (.cells (brow l) 36) (.cells (brow m) 36)) (by simp))
  have HGL := hide ((((Kept.refl [] (w.alloc (.cells (brow l) 36))).alloc (.cells (brow m) 36)).alloc (.cells (zb 32) 36)).heap (heap_alloc_new w (.cells (brow l) 36)) (by simp))
  have HSL := hide (by rw [List.length_map, (unhide HL).1]; exact Tryd.size_dig : (Tryd.prog.info? 36).map (·.size) = some (l.map u8).length)
  have HSM := hide (by rw [List.length_map, (unhide HM).1]; exact Tryd.size_dig : (Tryd.prog.info? 36).map (·.size) = some (m.map u8).length)
  go_wp2_with (first
    | (refine wpList_load_mid rfl 36 _ rfl w.heap.size 0 rfl (l.map u8) _ (range_row (unhide HGL)) Tryd.underlying36 rfl (unhide HSL) ?_)
    | (refine wpList_load_mid rfl 36 _ rfl (w.heap.size + 1) 0 rfl (m.map u8) _ (range_row (unhide HGM)) Tryd.underlying36 rfl (unhide HSM) ?_))
  rw [zb32]
  refine Calls.mono (refNodeInput_any k l m _ hk (unhide HL).1 (unhide HM).1 (unhide HL).2 (unhide HM).2) ?_
  rintro e w1 ⟨v1, rfl, r1, k1⟩
  have HR1 := hide r1
  obtain ⟨a1, m1, c1, rfl, _⟩ := id r1
  have HZ1 := hide (k1.heap (unhide HGZ) (by simp))
  have HK1 := hide ((unhide HK0).trans k1 (by simp))
  clear k1 r1 HGL HGM
  go_wp2_with fail
  refine Calls.mono (refCut_any k _ (nodeB k l m) _ (unhide HR1) hk.2) ?_
  rintro e w2 ⟨rfl, k2⟩
  rw [← unhide HE]
  have HZ2 := hide (k2.heap (unhide HZ1) (by simp))
  have HK2 := hide ((unhide HK1).trans k2 (by simp))
  clear k2
  go_wp2_with (refine wpList_store_row rfl 36 _ _ rfl (w.heap.size + 1 + 1) (brow D) rfl rfl _ (zb 32) (unhide HZ2) (by rw [brow_size, hcl]; exact Tryd.size_dig) (by rw [zb_size, brow_size, hcl]) (brow_one _) ?_)
  refine bodyPost_ret (v := .agg (brow D)) ?_ rfl ⟨rfl, (unhide HK2).setRow (Or.inr (by omega)) _⟩
  exact results_cell_row rfl _ _ (w.heap.size + 1 + 1) _ (brow D) (0, 0) _ rfl (setRow_heap _ _ _ _ _ _ (unhide HZ2)) Tryd.underlying36 rfl (by rw [brow_size, hcl]; exact Tryd.size_dig)

theorem spl_of {n k : Nat} (h2 : 2 ≤ n) (j : Nat) (hk : k = 2 ^ j) (hlt : k < n) (hge : n ≤ 2 * k) : spl n = k := by
  subst hk
  unfold spl
  have : (n - 1).log2 = j := by
    have a1 : 2 ^ j ≤ n - 1 := by omega
    have a2 : n - 1 < 2 ^ (j + 1) := by rw [Nat.pow_succ]; omega
    exact (Nat.log2_eq_iff (by omega)).2 ⟨a1, a2⟩
  rw [this]

end Go.Proofs.YtfajlfcomhjnkaaDoor
namespace Go.Proofs.YtfajlfcomhjnkaaDoor
open Go.RowKit Go.BigFrame
set_option linter.unusedVariables false
set_option linter.unusedSimpArgs false

theorem RdD.nlP {w : World} {ao : Option Addr} {len cap : Nat} {ds : List (List Nat)} (h : RdD w (.slice ao len cap) ds) : ds.length = len := by
  obtain ⟨_, _, _, e, h1, _⟩ := h
  cases e; exact h1
theorem RdD.oneP {w : World} {g : Nat} {l : List Nat} {t : TypeId} {fr : Nat × Nat} (h : w.heap[g]? = some (.cells (brow l) t fr)) (hl : Dg l) : RdD w (.slice (some ⟨g, 0, none⟩) 1 1) [l] := by
  refine ⟨_, 1, 1, rfl, rfl, Nat.le_refl _, by omega, fun d hd => by simp at hd; subst hd; exact hl, fun _ => ⟨g, 0, rfl, fun i hi => ?_⟩⟩
  obtain rfl : i = 0 := by omega
  exact range_row h
/-- The cells of digests in a row. -/
def flatD (ds : List (List Nat)) : List Value := (ds.map fun d => d.map u8).flatten
theorem flatD_len {ds : List (List Nat)} (h : ∀ d ∈ ds, d.length = 32) : (flatD ds).length = ds.length * 32 := by
  induction ds with
  | nil => rfl
  | cons d r ih =>
    have := ih (fun x hx => h x (by simp [hx]))
    simp only [flatD, List.map_cons, List.flatten_cons, List.length_append, List.length_map, List.length_cons] at this ⊢
    rw [this, h d (by simp)]; omega
theorem flatD_app (a b : List (List Nat)) : flatD (a ++ b) = flatD a ++ flatD b := by simp [flatD]
theorem flatD_one (ds : List (List Nat)) : ∀ v ∈ flatD ds, v.oneCell' = true := by
  intro v hv
  simp only [flatD, List.mem_flatten, List.mem_map] at hv
  obtain ⟨l, ⟨d, _, rfl⟩, h⟩ := hv
  exact u8_oneCell d v h
theorem flatD_at {ds : List (List Nat)} (h : ∀ d ∈ ds, d.length = 32) : ∀ (i : Nat), i < ds.length → ∀ j, j < 32 → (flatD ds)[i * 32 + j]? = ((ds.getD i []).map u8)[j]? := by
  induction ds with
  | nil => intro i hi; simp at hi
  | cons d r ih =>
    intro i hi j hj
    have hd := h d (by simp)
    have e : flatD (d :: r) = d.map u8 ++ flatD r := by simp [flatD]
    rw [e]
    cases i with
    | zero =>
      rw [Nat.zero_mul, Nat.zero_add, List.getElem?_append_left (by simp [hd]; exact hj)]; rfl
    | succ i =>
      rw [List.getElem?_append_right (by simp [hd]; omega), List.length_map, hd, show (i + 1) * 32 + j - 32 = i * 32 + j by omega, ih (fun x hx => h x (by simp [hx])) i (by simpa using hi) j hj]
      rfl
theorem RdD.news {w : World} {b off n c : Nat} {ds : List (List Nat)} (h : RdD w (.slice (some ⟨b, off, none⟩) n c) ds) : ∀ j u, (flatD ds)[j]? = some u → w.cell? ((⟨b, off, none⟩ : Addr).add j) = some u := by
  obtain ⟨ao', len', cap', e, h1, h2, h3, h4, h5⟩ := h
  cases e
  intro j u hu
  have hl := flatD_len (fun d hd => (h4 d hd).1)
  have hj := (List.getElem?_eq_some_iff.1 hu).1
  have hp : 0 < n := by
    rcases Nat.eq_zero_or_pos n with h0 | h0
    · rw [hl, h1, h0] at hj; omega
    · exact h0
  obtain ⟨b', off', e, hc⟩ := h5 hp
  cases e
  have hi : j / 32 < ds.length := by omega
  have hq := flatD_at (fun d hd => (h4 d hd).1) (j / 32) hi (j % 32) (Nat.mod_lt _ (by decide))
  rw [show j / 32 * 32 + j % 32 = j by omega, hu] at hq
  have := hc (j / 32) (by omega) (j % 32) u hq.symm
  rw [Addr.add_mid]
  rw [show off + j / 32 * 32 + j % 32 = off + j by omega] at this
  exact this
theorem rdd_owns {w : World} {base : Nat} {v : Value} {ds : List (List Nat)} (h : w.ownsRow base 36 32 v ds.length (flatD ds)) (hd : ∀ d ∈ ds, Dg d) : RdD w v ds := by
  rcases h.2 with ⟨rfl, h0⟩ | ⟨g, cap, cur, rfl, _, hg, h1, h2, h3, h4⟩
  · exact ⟨none, 0, 0, rfl, h0, Nat.le_refl _, by omega, hd, fun h => by omega⟩
  · refine ⟨_, ds.length, cap, rfl, rfl, h1, by unfold maxLen at h2; omega, hd, fun hp => ⟨g, 0, rfl, fun i hi j v hv => ?_⟩⟩
    have hj : j < 32 := by
      have := (List.getElem?_eq_some_iff.1 hv).1
      rw [List.length_map, List.getD_eq_getElem?_getD, List.getElem?_eq_getElem hi] at this
      rw [← (hd ds[i] (List.getElem_mem hi)).1]; exact this
    have hq := flatD_at (fun d hd' => (hd d hd').1) i hi j hj
    rw [Nat.zero_add, cell_of_row _ _ _ _ _ _ hg, ← hv, ← hq, ← h4, List.getElem?_take_of_lt (by omega), Array.getElem?_toList]

theorem Tryd.infoD : (Tryd.prog.info? 36).map (fun i => (i.zero, i.size, i.bytes)) = some (some (.agg (zb 32)), 32, 32) := by kernel_rfl

theorem owns_form {w : World} {base : Nat} {e : TypeId} {size n : Nat} {v : Value} {xs : List Value} (h : w.ownsRow base e size v n xs) : ∃ ao cap, v = .slice ao n cap := by
  rcases h.2 with ⟨rfl, rfl⟩ | ⟨g, cap, cur, rfl, _⟩
  · exact ⟨none, 0, rfl⟩
  · exact ⟨_, cap, rfl⟩
theorem append_none {P : Program} {w : World} (base : Nat) (t ty e : TypeId) (i : TypeInfo) (size c : Nat) (ht : P.underlying t = some (.slice e)) (hi : P.info? e = some i)
    (v : Value) (n : Nat) (xs : List Value) (hown : w.ownsRow base e size v n xs) :
    (Builtin.append_ #[t, t] ty #[v, .slice none 0 c]).run P w = .ok v w := by
  rcases hown.2 with ⟨rfl, rfl⟩ | ⟨g, cap, cur, rfl, _, _, hnc, _⟩
  · simp [Builtin.append_, run_underlying ht, sizeOf, typeInfo, hi, Builtin.lenOf, Builtin.firstCells]
  · simp [Builtin.append_, run_underlying ht, sizeOf, typeInfo, hi, Builtin.lenOf, Builtin.firstCells, hnc, storeCells]

theorem appendD (w : World) (base : Nat) (v : Value) (ds ps : List (List Nat)) (ao : Option Addr) (n c : Nat) (h : w.ownsRow base 36 32 v ds.length (flatD ds)) (hr : RdD w (.slice ao n c) ps) (hl : ds.length + ps.length ≤ 1000000000000) (hb : base ≤ w.heap.size) :
    ∃ ao' cap' w1, (Builtin.append_ #[22, 22] 22 #[v, .slice ao n c]).run Tryd.prog w = .ok (.slice ao' (ds.length + ps.length) cap') w1 ∧
      w1.ownsRow base 36 32 (.slice ao' (ds.length + ps.length) cap') (ds ++ ps).length (flatD (ds ++ ps)) ∧ w.grownBy w1 v.ownBlock := by
  obtain ⟨i0, hi, hz0, hz1, hz2⟩ := info_parts Tryd.infoD
  have hn := hr.nlP
  have hdg : ∀ d ∈ ps, d.length = 32 := fun d hd => (hr.dg hd).1
  rw [flatD_app, List.length_append]
  by_cases h0 : n = 0
  · subst h0
    have hp : ps = [] := List.eq_nil_of_length_eq_zero hn
    subst hp
    cases ao with
    | none =>
      have hrun := append_none (P := Tryd.prog) (w := w) base 22 22 36 i0 32 c Tryd.underlying22 hi v ds.length (flatD ds) h
      obtain ⟨ao', cap', rfl⟩ := owns_form h
      exact ⟨ao', cap', w, hrun, by simpa [flatD] using h, World.grownBy.refl _ _⟩
    | some ad =>
      obtain ⟨v', w1, hrun, hown, hgrow, _, hat⟩ := run_append_own_at (P := Tryd.prog) w base 22 22 36 i0 (.agg (zb 32)) 32 32 Tryd.underlying22 hi hz0 hz1 hz2 (by show (zb 32).size = 32; exact zb_size 32) (by decide)
        v ds.length (flatD ds) h ad 0 c (flatD []) (by simp [flatD]) (by intro j u hj; simp [flatD] at hj) (flatD_one _) (by unfold maxLen; omega) (by omega) hb
      obtain ⟨ao', cap', rfl⟩ := owns_form hown
      exact ⟨ao', cap', w1, hrun, hown, hgrow⟩
  · have hr' := hr
    obtain ⟨ao1, n1, c1, he, h1, h2, h3, h4, h5⟩ := hr'
    cases he
    obtain ⟨b, off, rfl, hc⟩ := h5 (by omega)
    obtain ⟨v', w1, hrun, hown, hgrow, _, hat⟩ := run_append_own_at (P := Tryd.prog) w base 22 22 36 i0 (.agg (zb 32)) 32 32 Tryd.underlying22 hi hz0 hz1 hz2 (by show (zb 32).size = 32; exact zb_size 32) (by decide)
      v ds.length (flatD ds) h ⟨b, off, none⟩ n c (flatD ps) (by rw [flatD_len hdg, hn]) hr.news (flatD_one _) (by unfold maxLen; omega) (by omega) hb
    subst h1
    obtain ⟨ao', cap', rfl⟩ := owns_form hown
    exact ⟨ao', cap', w1, hrun, hown, hgrow⟩

theorem wpList_appendD {ops : Array Oper} {rest : List Oper} {o : Oper} {a : Act} {Q : Exit → Act → World → Prop} (hgd : o.guard = none) (s x : Operand)
    (ho : o.op = .call { callee := .builtin .append, args := #[s, x], argTypes := #[22, 22] }) (hty : o.type = 22)
    (w : World) (base : Nat) (v : Value) (ds ps : List (List Nat)) (ao : Option Addr) (n c : Nat) (h : w.ownsRow base 36 32 v ds.length (flatD ds)) (hr : RdD w (.slice ao n c) ps) (hl : ds.length + ps.length ≤ 1000000000000) (hb : base ≤ w.heap.size)
    (hs : a.eval s = v) (hx : a.eval x = .slice ao n c)
    (hK : ∀ ao' cap' w1, Hid (w1.ownsRow base 36 32 (.slice ao' (ds.length + ps.length) cap') (ds ++ ps).length (flatD (ds ++ ps))) → Hid (w.grownBy w1 v.ownBlock) →
      wpList Tryd.prog ops Q rest (a.put o.dst (.slice ao' (ds.length + ps.length) cap')) w1) :
    wpList Tryd.prog ops Q (o :: rest) a w := by
  obtain ⟨ao', cap', w1, hrun, h2, h3⟩ := appendD w base v ds ps ao n c h hr hl hb
  refine wpList_plain hgd fun K hK' => ?_
  unfold Oper.wp execOp
  simp only [ho, hty, resolve, invoke, builtin, Sem.run_bind, Sem.run_pure, Result.andThen_ok, List.map_toArray, List.map_cons, List.map_nil, hs, hx, hrun]
  exact hK' _ _ (hK ao' cap' w1 h2 h3)

end Go.Proofs.YtfajlfcomhjnkaaDoor
namespace Go.Proofs.YtfajlfcomhjnkaaDoor
open Go.RowKit Go.BigFrame
set_option linter.unusedVariables false
set_option linter.unusedSimpArgs false

/-- The digests of ranges. -/
def rgL (z : Int) (L : List (List Nat)) (ss : List (Nat × Nat)) : List (List Nat) := ss.map fun s => rgD z L s.1 s.2
/-- A list of digests in memory of its own. -/
structure OwD (w0 w : World) (v : Value) (ds : List (List Nat)) : Prop where
  own : w.ownsRow w0.heap.size 36 32 v ds.length (flatD ds)
  dg : ∀ d ∈ ds, Dg d
  kept : Kept [] w0 w
theorem OwD.rd {w0 w : World} {v : Value} {ds : List (List Nat)} (h : OwD w0 w v ds) : RdD w v ds := rdd_owns h.own h.dg
theorem OwD.pass {w0 w w' : World} {v : Value} {ds : List (List Nat)} (h : OwD w0 w v ds) (k : Kept [] w w') : OwD w0 w' v ds := ⟨k.owns h.own (by simp), h.dg, h.kept.trans k (by simp)⟩
theorem OwD.nil (w : World) : OwD w w (.slice none 0 0) [] := ⟨World.ownsRow_nil _ _ _ _, by simp, Kept.refl _ _⟩
theorem OwD.push {w0 w w1 : World} {v u : Value} {ds : List (List Nat)} {d : List Nat} (h : OwD w0 w v ds) (hd : Dg d) (o : w1.ownsRow w0.heap.size 36 32 u (ds ++ [d]).length (flatD (ds ++ [d]))) (g : w.grownBy w1 v.ownBlock) : OwD w0 w1 u (ds ++ [d]) := by
  refine ⟨o, ?_, h.kept.grown g (by intro k hk; right; exact (h.own.lt k hk).1)⟩
  intro x hx
  rcases List.mem_append.1 hx with hx | hx
  · exact h.dg x hx
  · rw [List.mem_singleton] at hx; subst hx; exact hd

theorem Tryd.size_span : (Tryd.prog.info? 80).map (·.size) = some 2 := by kernel_rfl
theorem SpAt.cells {w0 w : World} {ao : Option Addr} {n c : Nat} {ss : List (Nat × Nat)} (h : SpAt w0 w (.slice ao n c) ss) (i : Nat) (hi : i < ss.length) : ∃ g, ao = some ⟨g, 0, none⟩ ∧ w.rangeAt g (i * 2) [.int .u64 (ss[i].1 : Int), .int .u64 (ss[i].2 : Int)] := by
  obtain ⟨base, _, h⟩ := h
  rcases h.2 with ⟨e, h0⟩ | ⟨g, cap, cur, e, _⟩
  · omega
  · cases e
    refine ⟨g, rfl, ?_⟩
    have hx := cellsS_get ss i hi
    have c1 := h.cells (g := g) rfl (2 * i) _ hx.1
    have c2 := h.cells (g := g) rfl (2 * i + 1) _ hx.2
    rw [Addr.add_mid, Nat.zero_add] at c1 c2
    intro j v hv
    match j, hv with
    | 0, hv => simp at hv; subst hv; rw [show i * 2 + 0 = 2 * i by omega]; exact c1
    | 1, hv => simp at hv; subst hv; rw [show i * 2 + 1 = 2 * i + 1 by omega]; exact c2
    | j + 2, hv => simp at hv
theorem one_digP (l : List Nat) (hl : l.length = 32) : List.foldl (fun cs x => cs.setIfInBounds x.snd x.fst) (zb 32) (List.map u8 l).zipIdx = brow l := by
  have h := fold_put (l.map u8) (zb 32) 0 0 (by rw [zb_size]; simp [hl])
  simp only [Nat.zero_add] at h
  rw [h]
  unfold brow
  rw [List.take_zero, List.nil_append, List.drop_eq_nil_of_le (by rw [List.length_map, hl, Array.length_toList, zb_size]; exact Nat.le_refl _), List.append_nil]

set_option maxRecDepth 100000 in
set_option maxHeartbeats 400000 in
theorem digests_nil (n : Int) (lv : Value) (w : World) :
    Calls Tryd.prog 28 #[.pointer none, .int .u64 n, lv] w fun e w' => e = .returned (.tuple #[.slice none 0 0, .int .i64 5]) ∧ w' = w := by
  go_enter Tryd.func28, Tryd.ntmps28
  go_wp2_with fail
  exact ⟨rfl, _, results_tmp2 rfl _ _ _, rfl, rfl⟩

set_option maxRecDepth 100000 in
set_option maxHeartbeats 400000 in
theorem digests_bad (z : Int) (t : Nat) (v lv : Value) (ps : List Pk) (n : Nat) (w : World) (hT : TreeAt z w t v ps) (hn : (leavesK ps).length < n) :
    Calls Tryd.prog 28 #[.pointer (some ⟨t, 0, none⟩), .int .u64 n, lv] w fun e w' => e = .returned (.tuple #[.slice none 0 0, .int .i64 4]) ∧ Kept [] w w' := by
  have HS := hide (sizeT_any t z v ps w hT)
  have hn' : ((leavesK ps).length : Int) < n := by omega
  generalize (leavesK ps).length = m at HS hn'
  go_enter Tryd.func28, Tryd.ntmps28
  go_wp2_with fail
  refine (unhide HS).mono ?_
  rintro e w1 ⟨rfl, rfl⟩
  go_wp2_with fail
  exact ⟨rfl, _, results_tmp2 rfl _ _ _, rfl, Kept.refl _ _⟩

set_option maxRecDepth 100000 in
set_option maxHeartbeats 1000000 in
theorem digests_any (z : Int) (t : Nat) (v lv : Value) (ps : List Pk) (n : Nat) (ss : List (Nat × Nat)) (w0 w : World) (hT : TreeAt z w t v ps) (hn : n ≤ (leavesK ps).length) (hb : (leavesK ps).length < 32768) (hs : SpAt w0 w lv ss) (hl : ss.length ≤ 1000) (hTb : Tabs w) (h6 : Tab6 w) :
    Calls Tryd.prog 28 #[.pointer (some ⟨t, 0, none⟩), .int .u64 n, lv] w fun e w' => ∃ u, e = .returned (.tuple #[u, .int .i64 0]) ∧ OwD w w' u (rgL z (leavesK ps) ss) := by
  have HS := hide (sizeT_any t z v ps w hT)
  have hn' : ¬ ((leavesK ps).length : Int) < n := by omega
  have HTR := hide hT
  have HTB := hide hTb
  have H6 := hide h6
  have HSP := hide hs
  have HBN := hide hb
  have HDG := hide (fun a b => rgD_len hT.pk a b)
  obtain ⟨sa, sc, rfl⟩ := hs.form
  generalize (leavesK ps).length = m at HS hn'
  clear hT hTb h6 hs hn hb
  go_enter Tryd.func28, Tryd.ntmps28
  go_wp2_with fail
  refine (unhide HS).mono ?_
  rintro e w1 ⟨rfl, rfl⟩
  go_wp2_with fail
  simp only [show decide (m < n) = false from decide_eq_false (by omega)]
  go_loopw [8, 21] (fun t8 t21 wr => ∃ (i : Nat), i ≤ ss.length ∧ t21 = .int .i64 (i : Int) ∧ Hid (OwD w1 wr t8 (rgL z (leavesK ps) (ss.take i)))) (fun _ t _ => ss.length - (intOf t).toNat)
  case atStart => exact ⟨0, Nat.zero_le _, rfl, hide (OwD.nil _)⟩
  case round =>
    obtain ⟨i, hi, rfl, HO⟩ := hrel
    by_cases hlt : i < ss.length
    · have hlt' : (i : Int) < (ss.length : Int) := by omega
      obtain ⟨g, hsa, hcell⟩ := ((unhide HSP).old (unhide HO).kept).cells i hlt
      subst hsa
      have HSN := hide (by unfold rgL; rw [List.take_add_one, List.getElem?_eq_getElem hlt, List.map_append]; rfl : rgL z (leavesK ps) (ss.take (i + 1)) = rgL z (leavesK ps) (ss.take i) ++ [rgD z (leavesK ps) ss[i].1 ss[i].2])
      have HLN := hide (by unfold rgL; rw [List.length_map, List.length_take]; omega : (rgL z (leavesK ps) (ss.take i)).length + 1 ≤ 1000000)
      have HDG1 := hide (unhide HDG ss[i].1 ss[i].2)
      generalize ss[i].1 = lo at hcell HSN HDG1
      generalize ss[i].2 = hi' at hcell HSN HDG1
      have HRG := hide (fun W (k : Kept [] w1 W) => rangeT_all z t v ps lo hi' W ((unhide HTR).old k) (unhide HBN) ((unhide HTB).kept k (by simp) (by simp)) ((unhide H6).kept k))
      generalize rgD z (leavesK ps) lo hi' = D at HRG HSN HDG1
      generalize rgE (leavesK ps) lo hi' = E at HRG
      have hdl := (unhide HDG1).1
      generalize rgL z (leavesK ps) (ss.take i) = ds at HO HSN HLN
      obtain ⟨ua, ucap, rfl⟩ := owns_form (unhide HO).own
      have ia : ¬ (i : Int) < 0 := by omega
      have ib : ¬ (ss.length : Int) ≤ i := by omega
      have kA := (Kept.refl [] wr).alloc (.cells #[.int .u64 (lo : Int), .int .u64 (hi' : Int)] 80)
      have HOA := hide ((unhide HO).pass kA)
      have HRC := hide (unhide HRG _ (unhide HOA).kept)
      have HCL := hide hcell
      clear hcell kA HRG
      go_wp2_with (first
        | (refine wpList_load_mid rfl 80 _ rfl g (i * 2) rfl [.int .u64 (lo : Int), .int .u64 (hi' : Int)] _ (unhide HCL) Tryd.underlying80 rfl (by exact Tryd.size_span) ?_))
      refine (unhide HRC).mono ?_
      rintro e wa ⟨rfl, ka⟩
      have HOB := hide (((unhide HOA).pass ka).pass (kept_old wa D))
      have HN := hide (cell_new wa D)
      clear ka HRC HOA HO HCL
      obtain ⟨wb, hwb⟩ : ∃ wb, (wa.alloc (.cells (zb 32) 36)).setRow wa.heap.size (brow D) = wb := ⟨_, rfl⟩
      rw [hwb] at HOB HN
      have HWB := hide hwb
      have HOC := hide ((unhide HOB).pass ((Kept.refl [] wb).alloc (.cells (brow D) 36)))
      have HNC := hide (heap_alloc_new wb (.cells (brow D) 36))
      clear hwb
      go_wp2_with (first
        | (rw [zb32]; refine wpList_store_row rfl 36 (.tmp 11) _ rfl wa.heap.size (brow D) rfl rfl _ (zb 32) (heap_alloc_new _ _) (Tryd.szD hdl) (by rw [zb_size, brow_size, hdl]) (brow_one _) ?_; rw [unhide HWB])
        | (refine wpList_load_mid rfl 36 _ rfl wa.heap.size 0 rfl (D.map u8) _ (range_row (unhide HN)) Tryd.underlying36 rfl (by rw [List.length_map, hdl]; exact Tryd.size_dig) ?_)
        | (at_builtin; rw [zb32, one_digP D hdl]; refine wpList_appendD rfl _ _ rfl rfl (wb.alloc (.cells (brow D) 36)) w1.heap.size (.slice ua ds.length ucap) ds [D] (some ⟨wb.heap.size, 0, none⟩) 1 1 (unhide HOC).own (RdD.oneP (unhide HNC) (unhide HDG1)) (by have := unhide HLN; simp; omega) (unhide HOC).kept.size rfl rfl ?_; intro ao3 cap3 w3 HO3 HG3; have HO4 := hide ((unhide HOC).push (unhide HDG1) (unhide HO3) (unhide HG3)); clear HO3 HG3))
      go_roundw
      case rel => exact ⟨i + 1, by omega, by simp, by rw [unhide HSN]; exact HO4⟩
      case measure => simp [intOf]; omega
    · have hlt' : ¬ (i : Int) < (ss.length : Int) := by omega
      have HE := hide (by rw [List.take_of_length_le (by omega)] : ss.take i = ss)
      go_wp2_with fail
      exact ⟨rfl, _, results_tmp2 rfl _ _ _, _, rfl, by have h9 := unhide HO; rw [unhide HE] at h9; exact h9⟩
end Go.Proofs.YtfajlfcomhjnkaaDoor
namespace Go.Proofs.YtfajlfcomhjnkaaDoor
open Go.RowKit Go.BigFrame
set_option linter.unusedVariables false
set_option linter.unusedSimpArgs false

theorem OwD.back {w0 w w' : World} {v : Value} {ds : List (List Nat)} (h : OwD w w' v ds) (k : Kept [] w0 w) : OwD w0 w' v ds := by
  refine ⟨⟨h.own.1, ?_⟩, h.dg, k.trans h.kept (by simp)⟩
  rcases h.own.2 with h1 | ⟨g, cap, cur, h1, h2, h3⟩
  · exact Or.inl h1
  · exact Or.inr ⟨g, cap, cur, h1, Nat.le_trans k.size h2, h3⟩
theorem OwD.form {w0 w : World} {v : Value} {ds : List (List Nat)} (h : OwD w0 w v ds) : ∃ ao cap, v = .slice ao ds.length cap := owns_form h.own
theorem OwD.zero {w0 w : World} (k : Kept [] w0 w) : OwD w0 w (.slice none 0 0) [] := (OwD.nil w).back k

/-- What Inclusion answers. -/
def inE (L : List (List Nat)) (i n : Nat) : Int := if n ≤ i ∨ L.length < n then 4 else 0
def inD (z : Int) (L : List (List Nat)) (i n : Nat) : List (List Nat) := if n ≤ i ∨ L.length < n then [] else rgL z L (pathF i 64 0 n)

set_option maxRecDepth 100000 in
set_option maxHeartbeats 400000 in
theorem mincl_any (z : Int) (t : Nat) (v : Value) (ps : List Pk) (i n : Nat) (w : World) (hT : TreeAt z w t v ps) (hb : (leavesK ps).length < 32768) (hTb : Tabs w) (h6 : Tab6 w) (hn64 : n < 18446744073709551616) :
    Calls Tryd.prog 16 #[.pointer (some ⟨t, 0, none⟩), .int .u64 i, .int .u64 n] w fun e w' => ∃ u, e = .returned (.tuple #[u, .int .i64 (inE (leavesK ps) i n)]) ∧ OwD w w' u (inD z (leavesK ps) i n) := by
  unfold inE inD
  by_cases h1 : n ≤ i
  · have h1' : (n : Int) ≤ (i : Int) := by omega
    rw [if_pos (Or.inl h1), if_pos (Or.inl h1)]
    go_enter Tryd.func16, Tryd.ntmps16
    go_wp2_with fail
    exact ⟨rfl, _, results_tmp2 rfl _ _ _, _, rfl, OwD.nil _⟩
  · have h1' : ¬ (n : Int) ≤ (i : Int) := by omega
    have HPA := hide (path_any i n w (by omega) hn64)
    have hpl := pathF_len i 64 0 n
    by_cases h2 : (leavesK ps).length < n
    · rw [if_pos (Or.inr h2), if_pos (Or.inr h2)]
      have HDB := hide (fun lv W (k : Kept [] w W) => digests_bad z t v lv ps n W (hT.old k) h2)
      clear hT h2
      go_enter Tryd.func16, Tryd.ntmps16
      go_wp2_with fail
      refine (unhide HPA).mono ?_
      rintro e w1 ⟨v1, rfl, s1, k1⟩
      have HK1 := hide k1
      clear s1 k1
      go_wp2_with fail
      refine (unhide HDB v1 w1 (unhide HK1)).mono ?_
      rintro e w2 ⟨rfl, k2⟩
      have HK2 := hide ((unhide HK1).trans k2 (by simp))
      clear k2
      go_wp2_with fail
      exact ⟨rfl, _, results_tmp2 rfl _ _ _, _, rfl, OwD.zero (unhide HK2)⟩
    · rw [if_neg (by omega), if_neg (by omega)]
      have HDB := hide (fun lv w0 W (k : Kept [] w W) (hs : SpAt w0 W lv (pathF i 64 0 n)) => digests_any z t v lv ps n _ w0 W (hT.old k) (by omega) hb hs (by omega) (hTb.kept k (by simp) (by simp)) (h6.kept k))
      clear hT h2 hb hTb h6
      generalize pathF i 64 0 n = ss at HPA HDB hpl ⊢
      generalize rgL z (leavesK ps) ss = ds at HDB ⊢
      go_enter Tryd.func16, Tryd.ntmps16
      go_wp2_with fail
      refine (unhide HPA).mono ?_
      rintro e w1 ⟨v1, rfl, s1, k1⟩
      have HK1 := hide k1
      have HS1 := hide s1
      clear s1 k1
      go_wp2_with fail
      refine (unhide HDB v1 w w1 (unhide HK1) (unhide HS1)).mono ?_
      rintro e w2 ⟨u, rfl, o2⟩
      have HO2 := hide (o2.back (unhide HK1))
      clear o2
      go_wp2_with fail
      exact ⟨rfl, _, results_tmp2 rfl _ _ _, u, rfl, unhide HO2⟩

/-- What Consistency answers. -/
def csE (L : List (List Nat)) (m n : Nat) : Int := if n < m ∨ L.length < n then 4 else 0
def csD (z : Int) (L : List (List Nat)) (m n : Nat) : List (List Nat) := if n < m ∨ L.length < n then [] else rgL z L (smL m n)
theorem smL_le (m n : Nat) : (smL m n).length ≤ 65 := by
  unfold smL
  have := seamF_len m 64 0 n true
  split
  · simp
  · omega

set_option maxRecDepth 100000 in
set_option maxHeartbeats 400000 in
theorem mcons_any (z : Int) (t : Nat) (v : Value) (ps : List Pk) (i n : Nat) (w : World) (hT : TreeAt z w t v ps) (hb : (leavesK ps).length < 32768) (hTb : Tabs w) (h6 : Tab6 w) (hn64 : n < 18446744073709551616) :
    Calls Tryd.prog 11 #[.pointer (some ⟨t, 0, none⟩), .int .u64 i, .int .u64 n] w fun e w' => ∃ u, e = .returned (.tuple #[u, .int .i64 (csE (leavesK ps) i n)]) ∧ OwD w w' u (csD z (leavesK ps) i n) := by
  unfold csE csD
  by_cases h1 : n < i
  · have h1' : (n : Int) < (i : Int) := by omega
    rw [if_pos (Or.inl h1), if_pos (Or.inl h1)]
    go_enter Tryd.func11, Tryd.ntmps11
    go_wp2_with fail
    exact ⟨rfl, _, results_tmp2 rfl _ _ _, _, rfl, OwD.nil _⟩
  · have h1' : ¬ (n : Int) < (i : Int) := by omega
    have HPA := hide (seam_any i n w (by omega) hn64)
    have hpl := smL_le i n
    by_cases h2 : (leavesK ps).length < n
    · rw [if_pos (Or.inr h2), if_pos (Or.inr h2)]
      have HDB := hide (fun lv W (k : Kept [] w W) => digests_bad z t v lv ps n W (hT.old k) h2)
      clear hT h2
      go_enter Tryd.func11, Tryd.ntmps11
      go_wp2_with fail
      refine (unhide HPA).mono ?_
      rintro e w1 ⟨v1, rfl, s1, k1⟩
      have HK1 := hide k1
      clear s1 k1
      go_wp2_with fail
      refine (unhide HDB v1 w1 (unhide HK1)).mono ?_
      rintro e w2 ⟨rfl, k2⟩
      have HK2 := hide ((unhide HK1).trans k2 (by simp))
      clear k2
      go_wp2_with fail
      exact ⟨rfl, _, results_tmp2 rfl _ _ _, _, rfl, OwD.zero (unhide HK2)⟩
    · rw [if_neg (by omega), if_neg (by omega)]
      have HDB := hide (fun lv w0 W (k : Kept [] w W) (hs : SpAt w0 W lv (smL i n)) => digests_any z t v lv ps n _ w0 W (hT.old k) (by omega) hb hs (by omega) (hTb.kept k (by simp) (by simp)) (h6.kept k))
      clear hT h2 hb hTb h6
      generalize smL i n = ss at HPA HDB hpl ⊢
      generalize rgL z (leavesK ps) ss = ds at HDB ⊢
      go_enter Tryd.func11, Tryd.ntmps11
      go_wp2_with fail
      refine (unhide HPA).mono ?_
      rintro e w1 ⟨v1, rfl, s1, k1⟩
      have HK1 := hide k1
      have HS1 := hide s1
      clear s1 k1
      go_wp2_with fail
      refine (unhide HDB v1 w w1 (unhide HK1) (unhide HS1)).mono ?_
      rintro e w2 ⟨u, rfl, o2⟩
      have HO2 := hide (o2.back (unhide HK1))
      clear o2
      go_wp2_with fail
      exact ⟨rfl, _, results_tmp2 rfl _ _ _, u, rfl, unhide HO2⟩
end Go.Proofs.YtfajlfcomhjnkaaDoor
