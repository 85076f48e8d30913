import Derived.Test.YtbljofojeagdkaaDoorMTKm
import Derived.Test.YtbljofojeagdkaaDoorMTOnes
import Derived.Test.YtbljofojeagdkaaDoorMT7
import Derived.Test.YtbljofojeagdkaaDoorQKe16
import Derived.Test.YtbljofojeagdkaaDoorQWp
namespace Go.Proofs.YtbljofojeagdkaaDoor
open Go.RowKit Go.BigFrame
set_option linter.unusedVariables false
set_option linter.unusedSimpArgs false

theorem wpQuiet_midT {P : Program} {ops : Array Oper} {C : World → Prop} {Q : Act → Prop} {a : Act} {o : Oper} {rest : List Oper} (hw : Region.wanted o (yielded ops a.tmps) = true) (ty : TypeId) (x : Operand) (ho : o.op = .load ty x)
    (b off : Nat) (hx : a.eval x = .pointer (some ⟨b, off, none⟩)) (cs : List Value) (d : TypeDesc) (hg : ∀ w, C w → w.rangeAt b off cs)
    (hu : P.underlying ty = some d) (hd : d.isRow = true) (hi : (P.info? ty).map (·.size) = some cs.length)
    (h : wpQuiet P ops C Q rest (a.put o.dst (.agg cs.toArray))) : wpQuiet P ops C Q (o :: rest) a := by
  refine wpQuiet_want hw fun K hK => ⟨.agg cs.toArray, fun w hw => ?_, hK _ h⟩
  unfold Oper.quietAt execOp
  simp only [ho]
  have := run_loadVar_mid (P := P) w b off ty cs d (hg w hw) hu hd hi
  simp only [hx, Instr.loadAt, Instr.sureAddr, Sem.run_bind, Sem.run_pure, Result.andThen_ok, this, Oper.quietUpon, and_self]
theorem shr_run (P : Program) (n m : Nat) (hm : m < 64) (W : World) : (Op.shift .shr .u64 (n : Int) .i64 (m : Int)).run P W = .ok (.int .u64 ((n / 2 ^ m : Nat) : Int)) W := by
  unfold Op.shift
  have hmin : min (m : Int).toNat IntKind.u64.bits = m := by simp [IntKind.bits]; omega
  rw [if_neg (by omega), hmin]
  have e : (n : Int).fdiv (2 ^ m) = ((n / 2 ^ m : Nat) : Int) := by
    have h2 : ((2 : Int) ^ m) = ((2 ^ m : Nat) : Int) := by simp
    rw [h2, Int.fdiv_eq_ediv_of_nonneg _ (Int.natCast_nonneg _)]
    rfl
  simp only [e]
  rfl
theorem run_shr {P : Program} {o : Oper} {a : Act} (t t2 : TypeId) (x y : Operand) (ho : o.op = .binOp .shr t x y t2) (n m : Nat) (hm : m < 64) (hx : a.eval x = .int .u64 (n : Int)) (hy : a.eval y = .int .i64 (m : Int)) (W : World) : (execOp a.eval o).run P W = .ok (.value (.int .u64 ((n / 2 ^ m : Nat) : Int))) W := by
  unfold execOp
  simp only [ho, hx, hy, eqGuard_shr, binOp_shr, Sem.run_bind, Sem.run_pure, Result.andThen_ok, shr_run P n m hm]
theorem rangeK {w : World} {ps A B : List Pk} {p : Pk} {b off : Nat} (hc : ∀ j u, (cellsK ps)[j]? = some u → w.cell? ⟨b, off + j, none⟩ = some u) (hps : ps = A ++ p :: B) (hl : (cellsK A).length = A.length * 33) : w.rangeAt b (off + A.length * 33) (partC p.s p.k) := by
  intro j u hj
  have e : cellsK ps = cellsK A ++ (partC p.s p.k ++ cellsK B) := by
    rw [hps, cellsK_app]; simp [cellsK]
  have hjl := (List.getElem?_eq_some_iff.1 hj).1
  have h9 := hc (A.length * 33 + j) u (by rw [e, List.getElem?_append_right (by omega), hl, Nat.add_sub_cancel_left, List.getElem?_append_left hjl]; exact hj)
  rw [Nat.add_assoc]; exact h9

set_option maxRecDepth 100000 in
set_option maxHeartbeats 400000 in
theorem keptT_any (z : Int) (t : Nat) (v : Value) (ps : List Pk) (lo h : Nat) (w : World) (hT : TreeAt z w t v ps) (hlo : lo + 2 ^ h ≤ (leavesK ps).length) (hd : 2 ^ h ∣ lo) (hb : (leavesK ps).length < 32768) :
    Calls Tryd.prog 60 #[.pointer (some ⟨t, 0, none⟩), .int .u64 lo, .int .i64 h] w fun e w' => e = .returned (.agg (brow (perT z h (((leavesK ps).drop lo).take (2 ^ h))))) ∧ Kept [] w w' := by
  obtain ⟨n, hn⟩ : ∃ n, (leavesK ps).length = n := ⟨_, rfl⟩
  have hp0 : 1 ≤ 2 ^ h := Nat.one_le_two_pow
  obtain ⟨A, p, B, hps, hbl, hoc, hla, hk12, hhk⟩ := peak_at hT.pk (lo := lo) (n := n) hn.symm (by omega) (by omega)
  rw [hn] at hlo hb
  have hhk2 := hhk h hd hlo
  clear hhk
  have hxr : (lo ^^^ n) < 32768 := by
    have := Nat.xor_lt_two_pow (x := lo) (y := n) (n := 15) (by omega) (by omega)
    simpa using this
  have hX : bits BinOp.xor IntKind.u64 (lo : Int) (n : Int) = ((lo ^^^ n : Nat) : Int) := by
    have h1 : (BitVec.ofInt 64 (lo : Int)).toNat = lo := by rw [BitVec.ofInt_natCast, BitVec.toNat_ofNat]; exact Nat.mod_eq_of_lt (by omega)
    have h2 : (BitVec.ofInt 64 (n : Int)).toNat = n := by rw [BitVec.ofInt_natCast, BitVec.toNat_ofNat]; exact Nat.mod_eq_of_lt (by omega)
    show IntKind.u64.wrap ((BitVec.ofInt 64 (lo : Int) ^^^ BitVec.ofInt 64 (n : Int)).toNat : Int) = _
    rw [BitVec.toNat_xor, h1, h2]
    simp [IntKind.wrap, IntKind.signed, IntKind.bits]
    omega
  have hrow := hT.row
  rw [hn] at hrow
  have c0 := cell_of_row _ _ 1 _ _ _ hrow
  have c2 := cell_of_row _ _ 2 _ _ _ hrow
  simp at c0 c2
  have kX := (Kept.refl [] w).alloc (.cells (zb 32) 23)
  have cX1 := kX.cell c0 (by simp)
  have cX2 := kX.cell c2 (by simp)
  rw [← zb32] at cX1 cX2
  have HZX := hide (heap_alloc_new w (.cells (zb 32) 23))
  have HTT := hide hT
  have HKX := hide kX
  obtain ⟨D, hD⟩ : ∃ D, perT z h (((leavesK ps).drop lo).take (2 ^ h)) = D := ⟨_, rfl⟩
  rw [hD]
  have HD := hide hD
  clear hD
  have HPS := hide hps
  have HLA := hide hla
  have HLO := hide hlo
  have HDV := hide hd
  have HBL := hide hbl
  have HOC := hide hoc
  have HHN := hide hn
  have hh12 : h < 15 := by
    rcases Nat.lt_or_ge h 15 with h9 | h9
    · exact h9
    · have : 2 ^ 15 ≤ 2 ^ h := Nat.pow_le_pow_right (by omega) h9
      omega
  have hlon : lo < n := by omega
  obtain ⟨x, hx⟩ : ∃ x, lo ^^^ n = x := ⟨_, rfl⟩
  rw [hx] at hX hxr HBL
  clear c0 c2 hT hrow hps hla hlo hd hbl hoc hn hp0 hx
  go_enter Tryd.func60, Tryd.ntmps60
  go_wp2_with (simp only [hX])
  refine Calls.mono (len64_any x _ (by omega)) ?_
  rintro e w1 ⟨rfl, k1⟩
  rw [unhide HBL, zb32] at *
  have HK1 := hide ((unhide HKX).trans k1 (by simp))
  have HZ1 := hide (k1.heap (unhide HZX) (by simp))
  have d1 := k1.cell cX1 (by simp)
  have d2 := k1.cell cX2 (by simp)
  clear k1 cX1 cX2 HKX HZX
  obtain ⟨k, hk⟩ : ∃ k, p.h = k := ⟨_, rfl⟩
  rw [hk] at hk12 hhk2 ⊢
  have hk1 : ((k + 1 : Nat) : Int) = (k : Int) + 1 := by omega
  rw [hk1]
  go_wp2_with fail
  obtain ⟨va, vc, hve, hvl, hvc, hvr⟩ := (unhide HTT).rd
  have hAl : A.length < ps.length := by rw [unhide HPS]; simp
  obtain ⟨b, off, rfl, hcell⟩ := hvr (by omega)
  subst hve
  have hA33 : (cellsK A).length = A.length * 33 := cellsK_len' (fun q hq => ((unhide HTT).pk.ok q (by rw [unhide HPS]; simp [hq])).dg.1)
  have HRG := hide (fun j u hj => (unhide HK1).cell (rangeK hcell (unhide HPS) hA33 j u hj) (by simp) : w1.rangeAt b (off + A.length * 33) (partC p.s p.k))
  have hpA := (unhide HTT).pk.ok p (by rw [unhide HPS]; simp)
  have HPA := hide (by have h9 := hpA; rw [leaves_peak (B := B) (unhide HLA) hpA.len, ← unhide HPS] at h9; exact h9 : PA z w p.h p.s p.k (subL (leavesK ps) lo p.h))
  rw [hk] at HPA
  have hs32 := hpA.dg.1
  have HON := hide (all_one (partC_one (s := p.s) hpA.one))
  have HOCn := hide (unhide HOC)
  rw [hk] at HOCn
  obtain ⟨na, hna⟩ : ∃ na, A.length = na := ⟨_, rfl⟩
  obtain ⟨np, hnp⟩ : ∃ np, ps.length = np := ⟨_, rfl⟩
  rw [hna] at hAl HRG HOCn
  rw [hnp] at hAl hvl d2
  have hnb : n / 2 ^ (k + 1) < 32768 := Nat.lt_of_le_of_lt (Nat.div_le_self _ _) hb
  have HON2 := hide (fun (W : World) => ones64_any (n / 2 ^ (k + 1)) W hnb)
  rw [unhide HOCn] at HON2
  obtain ⟨nd, hnd⟩ : ∃ nd, n / 2 ^ (k + 1) = nd := ⟨_, rfl⟩
  have HND := hide hnd
  rw [hnd] at HON2
  have hnp2 : np ≤ 32768 := by
    have h8 := len_le_sum (ps.reverse.map (·.h)); rw [← leavesK_len (unhide HTT).pk.ok, unhide HHN] at h8; simp at h8; omega
  have ia : ¬ (na : Int) < 0 := by omega
  have ib : ¬ (np : Int) ≤ na := by omega
  have hkw : IntKind.i64.wrap ((k : Int) + 1) = (k : Int) + 1 := by simp [IntKind.wrap, IntKind.signed, IntKind.bits]; omega
  clear hcell hpA hnd hna hnp hA33 hnb
  refine wp_ke16 (by kernel_rfl) (by kernel_rfl) (by kernel_rfl) (by kernel_rfl) (by kernel_rfl) (by kernel_rfl) (by kernel_rfl) (by kernel_rfl) (by kernel_rfl) (by kernel_rfl) (by kernel_rfl) (by kernel_rfl) (by kernel_rfl) (by kernel_rfl) (by kernel_rfl) (by kernel_rfl) (by kernel_rfl) (by kernel_rfl) (by kernel_rfl) (by kernel_rfl) (by kernel_rfl) (by kernel_rfl) (by kernel_rfl) (by kernel_rfl) (by kernel_rfl) (by kernel_rfl) (by kernel_rfl) (by kernel_rfl) (by kernel_rfl) (by kernel_rfl) (by kernel_rfl) (by kernel_rfl) (by kernel_rfl) (by kernel_rfl) (by kernel_rfl) (by kernel_rfl) (by kernel_rfl) rfl rfl rfl (by simp) (by simp) (by simp)
    (.pointer (some ⟨t, 0, none⟩)) (.pointer (some ⟨t, 0, none⟩)) (.pointer (some ⟨t, 2, none⟩)) (.slice (some ⟨b, off, none⟩) np vc) (.pointer (some ⟨t, 0, none⟩)) (.pointer (some ⟨t, 0, none⟩)) (.pointer (some ⟨t, 1, none⟩)) (.int .u64 (n : Int)) (.int .i64 (k : Int)) (.int .i64 ((k : Int) + 1)) (.int .u64 (nd : Int)) _ _ _ _ _ _ _ _ _ _ _
    (fun w' => Kept [] w1 w')
    (fun w' => Kept [] w1 w')
    (fun u w' => u = .int .i64 (na : Int) ∧ Kept [] w1 w')
    (fun y w' => (∃ gp, y = .pointer (some ⟨gp, 0, none⟩) ∧ w1.heap.size ≤ gp ∧ w'.heap[gp]? = some (.cells zP 87 (0, 0))) ∧ Kept [] w1 w')
    (fun u y w' => u = .int .i64 (na : Int) ∧ (∃ gp, y = .pointer (some ⟨gp, 0, none⟩) ∧ w1.heap.size ≤ gp ∧ w'.heap[gp]? = some (.cells zP 87 (0, 0))) ∧ Kept [] w1 w')
    (fun u y x w' => u = .int .i64 (na : Int) ∧ (∃ gp, y = .pointer (some ⟨gp, 0, none⟩) ∧ w1.heap.size ≤ gp ∧ w'.heap[gp]? = some (.cells (partC p.s p.k).toArray 87 (0, 0))) ∧ Kept [] w1 w')
    (fun u => .pointer (some ⟨b, off + na * 33, none⟩)) (fun u => .agg (partC p.s p.k).toArray)
    (by simp only [Act.put, List.setIfInBounds_toArray, List.set_cons_zero, List.set_cons_succ]; rfl) (by exact Or.inl ⟨by rfl, fun W' hW' => by go_simp⟩)
    (by simp only [Act.put, List.setIfInBounds_toArray, List.set_cons_zero, List.set_cons_succ]; rfl) (by exact Or.inl ⟨by rfl, fun W' hW' => by go_simp⟩)
    (by simp only [Act.put, List.setIfInBounds_toArray, List.set_cons_zero, List.set_cons_succ]; rfl) (by exact Or.inl ⟨by rfl, fun W' hW' => by go_simp⟩)
    (by simp only [Act.put, List.setIfInBounds_toArray, List.set_cons_zero, List.set_cons_succ]; rfl) (by exact Or.inl ⟨by rfl, fun W' hW' => by have h9 := hW'.cell d2 (by simp); go_simp⟩)
    (by simp only [Act.put, List.setIfInBounds_toArray, List.set_cons_zero, List.set_cons_succ]; rfl) (by exact Or.inl ⟨by rfl, fun W' hW' => by go_simp⟩)
    (by simp only [Act.put, List.setIfInBounds_toArray, List.set_cons_zero, List.set_cons_succ]; rfl) (by exact Or.inl ⟨by rfl, fun W' hW' => by go_simp⟩)
    (by simp only [Act.put, List.setIfInBounds_toArray, List.set_cons_zero, List.set_cons_succ]; rfl) (by exact Or.inl ⟨by rfl, fun W' hW' => by go_simp⟩)
    (by simp only [Act.put, List.setIfInBounds_toArray, List.set_cons_zero, List.set_cons_succ]; rfl) (by exact Or.inl ⟨by rfl, fun W' hW' => by have h9 := hW'.cell d1 (by simp); go_simp⟩)
    (by simp only [Act.put, List.setIfInBounds_toArray, List.set_cons_zero, List.set_cons_succ]; rfl) (by exact Or.inl ⟨by rfl, fun W' hW' => by go_simp⟩)
    (by simp only [Act.put, List.setIfInBounds_toArray, List.set_cons_zero, List.set_cons_succ]; rfl) (by exact Or.inl ⟨by rfl, fun W' hW' => by go_simp⟩)
    (by simp only [Act.put, List.setIfInBounds_toArray, List.set_cons_zero, List.set_cons_succ]; rfl) (by exact Or.inl ⟨by rfl, fun W' hW' => (by rw [← unhide HND]; exact run_shr _ _ _ _ rfl n (k + 1) (by omega) rfl (by rw [hk1]; rfl) W')⟩)
    (Kept.refl [] w1).drew
    ⟨fun w' h => h, fun u w' h => h.2, fun u w' h => h.2, fun u y w' h => h.2.2, fun u y x w' h => h.2.2⟩
    (by intro w' i K hK; exact wp_callN rfl Tryd.call72 [.int .u64 (nd : Int)] rfl (unhide HON2 w') (fun e w2 h => ⟨_, h.1, hK _ _ ⟨rfl, by rw [h.2]; exact i⟩⟩))
    (by intro w' i K hK; unfold Oper.wp execOp; go_simp; exact hK _ _ ⟨⟨_, rfl, i.size, heap_alloc_new w' (.cells zP 87)⟩, i.alloc _⟩)
    (by rintro u w' ⟨rfl, i⟩ K hK; unfold Oper.wp execOp; go_simp; exact hK _ _ ⟨rfl, ⟨_, rfl, i.size, heap_alloc_new w' (.cells zP 87)⟩, i.alloc _⟩)
    (by rintro y w' ⟨⟨gp, rfl, h1, h2⟩, i⟩ K hK; exact wp_callN rfl Tryd.call72 [.int .u64 (nd : Int)] rfl (unhide HON2 w') (fun e w2 h => ⟨_, h.1, hK _ _ ⟨rfl, ⟨gp, rfl, h1, by rw [h.2]; exact h2⟩, by rw [h.2]; exact i⟩⟩))
    (by
      intro u y w' hh K hK
      simp only [Act.put, List.setIfInBounds_toArray, List.set_cons_zero, List.set_cons_succ] at hK ⊢
      obtain ⟨rfl, ⟨gp, rfl, h1, h2⟩, i⟩ := hh
      exact wp_store_row 87 _ _ rfl gp (partC p.s p.k).toArray rfl rfl _ zP h2 (by rw [List.size_toArray, partC_len hs32]; exact size_part) (by rw [zP_size, List.size_toArray, partC_len hs32]) (unhide HON) (hK undef _ ⟨rfl, ⟨gp, rfl, h1, setRow_heap _ _ _ _ _ _ h2⟩, i.setRow (Or.inr h1) _⟩))
    (by rintro u w' ⟨rfl, _⟩; exact Or.inl ⟨by rfl, fun W' hW' => by go_simp⟩)
    (by
      rintro u w' ⟨rfl, _⟩
      refine Or.inl ⟨by rfl, fun W' hW' => ?_⟩
      have h9 := run_loadVar_mid (P := Tryd.prog) W' b (off + na * 33) 87 (partC p.s p.k) _ (fun k u hk => hW'.cell (unhide HRG k u hk) (by simp)) Tryd.underlying87 rfl (by rw [partC_len hs32]; exact size_part)
      unfold execOp
      simp only [Instr.loadAt, Instr.sureAddr, Sem.run_bind, Sem.run_pure, Result.andThen_ok]
      change ((Sem.run Tryd.prog (loadVar 87 ⟨b, off + na * 33, none⟩) W').andThen fun a w' => Result.ok (Next.value a) w') = _
      rw [h9]
      rfl)
    (by rintro u y w' ⟨rfl, ⟨gp, rfl, _⟩, _⟩; exact Or.inl ⟨by rfl, fun W' hW' => by go_simp⟩)
    (by
      rintro u y w' ⟨rfl, ⟨gp, rfl, _⟩, _⟩
      refine Or.inl ⟨by rfl, fun W' hW' => ?_⟩
      have h9 := run_loadVar_mid (P := Tryd.prog) W' b (off + na * 33) 87 (partC p.s p.k) _ (fun k u hk => hW'.cell (unhide HRG k u hk) (by simp)) Tryd.underlying87 rfl (by rw [partC_len hs32]; exact size_part)
      unfold execOp
      simp only [Instr.loadAt, Instr.sureAddr, Sem.run_bind, Sem.run_pure, Result.andThen_ok]
      change ((Sem.run Tryd.prog (loadVar 87 ⟨b, off + na * 33, none⟩) W').andThen fun a w' => Result.ok (Next.value a) w') = _
      rw [h9]
      rfl)
    ?_
  rintro u y x1 Y ⟨rfl, ⟨gp, rfl, hgp, hrow⟩, kY⟩
  simp only [Act.put, List.setIfInBounds_toArray, List.set_cons_zero, List.set_cons_succ]
  have HKY := hide ((unhide HK1).trans kY (by simp))
  have HZY := hide (kY.heap (unhide HZ1) (by simp))
  have HRY := hide hrow
  have hgw := lt_of_block (unhide HZ1)
  clear kY hrow HRG HON2 d1 d2 HK1 HZ1
  go_wp2_with fail
  have HLs := hide (unhide HD)
  obtain ⟨L, hL⟩ : ∃ L, leavesK ps = L := ⟨_, rfl⟩
  rw [hL] at HPA HD
  go_loopw [9] (fun t9 wr => ∃ (m : Nat) (s : List Nat) (kv : Value), h ≤ m ∧ m ≤ k ∧ t9 = .int .i64 ((m : Int) - 1) ∧ Hid (PA z w m s kv (subL L lo m)) ∧ Hid (wr.heap[gp]? = some (.cells (partC s kv).toArray 87 (0, 0))) ∧ Hid (wr.heap[w.heap.size]? = some (.cells (zb 32) 23 (0, 0))) ∧ Hid (Kept [] w wr)) (fun t _ => (intOf t + 1).toNat)
  case atStart => exact ⟨k, _, _, hhk2, Nat.le_refl _, rfl, HPA, HRY, HZY, HKY⟩
  case round =>
    obtain ⟨m, s, kv, hm1, hm2, rfl, HPM, HRM, HZM, HKM⟩ := hrel
    by_cases hmh : h < m
    · obtain ⟨i, rfl⟩ : ∃ i, m = i + 1 := ⟨m - 1, by omega⟩
      have e9 : ((i + 1 : Nat) : Int) - 1 = (i : Int) := by omega
      rw [e9]
      have hge : (h : Int) ≤ i := by omega
      obtain ⟨g, s0, k0, l0, s1, k1, l1, hkv, hgr, hp0, hp1, hll, hss⟩ := unhide HPM
      subst hkv
      have HG := hide ((unhide HKM).heap hgr (by simp))
      have hsub := subL_kids hll.symm hp0.len hp1.len
      have h32 : s.length = 32 := by rw [hss]; exact (nodS_dg z s0 s1).1
      have hgp9 := cell_of_row _ _ 32 _ _ _ (unhide HRM)
      have hgp8 : wr.cell? ⟨gp, 32, none⟩ = some (.pointer (some ⟨g, 0, none⟩)) := by
        rw [hgp9]; simp [partC, h32]
      have hrg0 : wr.rangeAt g 0 (partC s0 k0) := fun j u hj => range_rowV (unhide HG) j u (by rw [List.getElem?_append_left (List.getElem?_eq_some_iff.1 hj).1]; exact hj)
      have hrg1 : wr.rangeAt g 33 (partC s1 k1) := fun j u hj => by
        have h9 := range_rowV (unhide HG) (33 + j) u (by rw [List.getElem?_append_right (by rw [partC_len hp0.dg.1]; omega), partC_len hp0.dg.1, Nat.add_sub_cancel_left]; exact hj)
        rw [Nat.zero_add] at h9
        exact h9
      obtain ⟨bt, hbt⟩ : ∃ bt, lo / 2 ^ i % 2 = bt := ⟨_, rfl⟩
      have hbt2 : bt = 0 ∨ bt = 1 := by omega
      obtain ⟨sx, kx, HPX, HRX⟩ : ∃ sx kx, Hid (PA z w i sx kx (subL L lo i)) ∧ Hid (wr.rangeAt g (bt * 33) (partC sx kx)) := by
        rcases hbt2 with rfl | rfl
        · exact ⟨s0, k0, hide (by rw [← hsub.1 hbt]; exact hp0), hide hrg0⟩
        · exact ⟨s1, k1, hide (by rw [← hsub.2 hbt]; exact hp1), hide hrg1⟩
      have HANDV := hide (by
        have h9 := u64_and_natT (lo / 2 ^ i) 1 (by have := Nat.div_le_self lo (2 ^ i); omega) (by omega)
        rw [Nat.and_one_is_mod, hbt] at h9
        exact h9 : bits BinOp.and IntKind.u64 ((lo / 2 ^ i : Nat) : Int) ((1 : Nat) : Int) = (bt : Int))
      have hx32 := (unhide HPX).dg.1
      have HOX := hide (all_one (partC_one (s := sx) (unhide HPX).one))
      have HSR := hide (fun (W : World) => shr_run Tryd.prog lo i (by omega) W)
      obtain ⟨ld, hld⟩ : ∃ ld, lo / 2 ^ i = ld := ⟨_, rfl⟩
      have HLD := hide hld
      rw [hld] at HANDV
      have hand : bits BinOp.and IntKind.u64 (ld : Int) 1 = (bt : Int) := unhide HANDV
      have hb0 : ¬ (bt : Int) < 0 := by omega
      have hb1 : ¬ (2 : Int) ≤ bt := by omega
      clear hp0 hp1 hll hss hsub hrg0 hrg1 hgp9 hgr hbt hld e9
      go_wp2_with fail
      refine wp_quiet_tail 9 (by kernel_rfl) (by kernel_rfl) ?_
      simp only [List.take_succ_cons, List.take_zero, List.drop_succ_cons, List.drop_zero]
      iterate 4 (go_big_quiet_step (fail))
      refine wpQuiet_val rfl (.int .u64 (ld : Int)) (fun w' _ => by rw [← unhide HLD]; exact run_shr _ _ _ _ rfl lo i (by omega) rfl rfl w') ?_
      simp only [Act.put, List.setIfInBounds_toArray, List.set_cons_succ, List.set_cons_zero]
      iterate 3 (go_big_quiet_step (fail))
      refine wpQuiet_midT rfl 87 _ rfl g (bt * 33) rfl (partC sx kx) _ (fun w' hw' j u hj => by obtain ⟨m9, rfl⟩ := hw'; exact unhide HRX j u hj) Tryd.underlying87 rfl (by rw [partC_len hx32]; exact size_part) ?_
      simp only [Act.put, List.setIfInBounds_toArray, List.set_cons_succ, List.set_cons_zero]
      refine wpQuiet_nil ?_
      rintro _ ⟨m9, rfl⟩
      have HRM2 := hide (by exact unhide HRM : (wr.drewN m9).heap[gp]? = some (.cells (partC s (.pointer (some ⟨g, 0, none⟩))).toArray 87 (0, 0)))
      have HKM2 := hide (((unhide HKM).drewN m9).setRow (g := gp) (Or.inr (by omega)) (partC sx kx).toArray)
      have HRM3 := hide (setRow_heap (wr.drewN m9) gp (partC s (.pointer (some ⟨g, 0, none⟩))).toArray (partC sx kx).toArray 87 (0, 0) (unhide HRM2))
      have HZM3 := hide ((setRow_other (wr.drewN m9) gp w.heap.size (partC sx kx).toArray (by omega)).trans (unhide HZM))
      go_wp2_with (refine wpList_store_row rfl 87 (.tmp 8) _ rfl gp (partC sx kx).toArray rfl rfl _ _ (unhide HRM2) (by rw [List.size_toArray, partC_len hx32]; exact size_part) (by rw [List.size_toArray, List.size_toArray, partC_len hx32, partC_len h32]) (unhide HOX) ?_)
      refine ⟨⟨i, _, _, by omega, by omega, rfl, HPX, HRM3, HZM3, HKM2⟩, ?_⟩
      simp [intOf]
    · have hme : m = h := by omega
      subst hme
      have hnl : ¬ (m : Int) ≤ (m : Int) - 1 := by omega
      have hs9 := (unhide HPM).sum
      rw [subL_all (unhide HDV), unhide HD] at hs9
      subst hs9
      have HKM2 := hide ((unhide HKM).setRow (g := w.heap.size) (Or.inr (Nat.le_refl _)) (brow s))
      have hd32 := (unhide HPM).dg.1
      have HRS := hide (range_part (range_rowV (unhide HRM)))
      go_wp2_with (first
        | (refine wpList_load_mid rfl 23 (.tmp 48) rfl gp 0 rfl (s.map Go.Proofs.YtbljofojeagdkaaDoor.u8) _ (unhide HRS) Tryd.underlying23 rfl (by rw [List.length_map, hd32]; exact Tryd.size_dig) ?_)
        | (refine wpList_store_row rfl 23 (.tmp 6) _ rfl w.heap.size (brow s) rfl rfl _ (zb 32) (unhide HZM) (by rw [brow_size, hd32]; exact Tryd.size_dig) (by rw [zb_size, brow_size, hd32]) (brow_one _) ?_))
      refine bodyPost_ret (v := .agg (brow s)) ?_ rfl ⟨rfl, unhide HKM2⟩
      exact results_cell_row rfl _ _ w.heap.size _ (brow s) (0, 0) _ rfl (setRow_heap _ _ _ _ _ _ (unhide HZM)) Tryd.underlying23 rfl (by rw [brow_size, hd32]; exact Tryd.size_dig)
end Go.Proofs.YtbljofojeagdkaaDoor
