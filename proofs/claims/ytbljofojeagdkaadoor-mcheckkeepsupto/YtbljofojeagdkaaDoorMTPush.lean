import Derived.Test.YtbljofojeagdkaaDoorMT7
namespace Go.Proofs.YtbljofojeagdkaaDoor
open Go.RowKit Go.BigFrame
set_option linter.unusedVariables false
set_option linter.unusedSimpArgs false

set_option maxRecDepth 100000 in
set_option maxHeartbeats 4000000 in
theorem push_any (z : Int) (t N base : Nat) (v : Value) (ps : List Pk) (leaf : List Nat) (w : World) (hrow : w.heap[t]? = some (.cells #[.int .i64 z, .int .u64 (N : Int), v] 83 (0, 0))) (hown0 : w.ownsRow base 87 33 v ps.length (cellsK ps)) (hpk : PKs z w ps) (hNl : N = (leavesK ps).length) (hN : N ≤ 1000000000) (hbw : base ≤ w.heap.size) (hw : widthB z = true) (hfar : Far t v) (hl : Dg leaf) (hf : formB z leaf = true) (hT : Tabs w) (h6 : Tab6 w) :
    Calls Tryd.prog 42 #[.pointer (some ⟨t, 0, none⟩), .agg (brow leaf)] w fun e w' => e = .returned (.tuple #[]) ∧ PushD z t N base v ps leaf w w' := by
  have hnp : ps.length ≤ N := by have := len_le_sum (ps.reverse.map (·.h)); rw [hNl, leavesK_len hpk.ok]; simpa using this
  obtain ⟨n, hn0⟩ : ∃ n, ps.length = n := ⟨_, rfl⟩
  obtain ⟨xs, hxs0⟩ : ∃ xs, cellsK ps = xs := ⟨_, rfl⟩
  have hown : w.ownsRow base 87 33 v n xs := by rw [← hn0, ← hxs0]; exact hown0
  have hn : n ≤ 1000000000 := by omega
  have HV0 := hide (by
    intro b hb
    rcases hown.2 with ⟨h9, _⟩ | ⟨g, cap, cur, h1, h2, h3, _⟩
    · rw [h9] at hb; simp [Value.ownBlock] at hb
    · rw [h1] at hb; simp [Value.ownBlock] at hb; subst hb; exact ⟨_, _, h3⟩ : ∀ b, v.ownBlock = some b → ∃ cs m, w.heap[b]? = some (.cells cs 87 m))
  have hvb : ∀ b, v.ownBlock = some b → b < w.heap.size ∧ ¬ b = t := fun b hb => ⟨(hown.lt b hb).2, fun e => by
    obtain ⟨cs, m, h9⟩ := unhide HV0 b hb
    rw [e, hrow] at h9; simp at h9⟩
  have HT0 := hide (⟨_, _, hrow⟩ : ∃ cs m, w.heap[t]? = some (.cells cs 83 m))
  have HST := hide (fun (wr : World) g1 cap1 => PuRel.start (t := t) (v := v) (wr := wr) (g1 := g1) (cap1 := cap1) (base := base) hpk hNl hl hf)
  rw [hn0, hxs0] at HST
  have HTw := hide (fun (W : World) (k : Kept (t :: v.ownBlock.toList) w W) => hfar.tabs hT k)
  have H6w := hide (fun (W : World) (k : Kept (t :: v.ownBlock.toList) w W) => hfar.tab6 h6 k)
  clear hnp hn0 hxs0 hown0 hpk hNl hf hT h6 hfar
  have kX := (Kept.refl [] w).alloc (.cells (brow leaf) 23)
  have HGX := hide (heap_alloc_new w (.cells (brow leaf) 23))
  have HRX := hide (kX.heap hrow (by simp))
  have HOX := hide (kX.owns hown (by simp))
  have hXs : (w.alloc (.cells (brow leaf) 23)).heap.size = w.heap.size + 1 := by simp
  go_enter Tryd.func42, Tryd.ntmps42
  go_wp2_with fail
  obtain ⟨X, hX⟩ : ∃ X, w.alloc (.cells (brow leaf) 23) = X := ⟨_, rfl⟩
  rw [hX] at HGX HRX HOX hXs kX ⊢
  have HKX := hide kX
  clear hX kX
  have cq : X.cell? ⟨t, 2, none⟩ = some v := cell_of_row _ _ 2 _ _ _ (unhide HRX)
  have hlb : (brow leaf).size = 32 := by rw [brow_size, hl.1]
  refine wp_pu12 (by kernel_rfl) (by kernel_rfl) (by kernel_rfl) (by kernel_rfl) (by kernel_rfl) (by kernel_rfl) (by kernel_rfl) (by kernel_rfl) (by kernel_rfl) (by kernel_rfl) (by kernel_rfl) (by kernel_rfl) (by kernel_rfl) (by kernel_rfl) (by kernel_rfl) (by kernel_rfl) (by kernel_rfl) (by kernel_rfl) (by kernel_rfl) (by kernel_rfl) (by kernel_rfl) (by kernel_rfl) (by kernel_rfl) (by kernel_rfl) rfl (by kernel_rfl) rfl (by kernel_rfl) rfl (by kernel_rfl) rfl (by kernel_rfl) rfl (by kernel_rfl)
    (.pointer (some ⟨t, 0, none⟩)) (.pointer (some ⟨t, 0, none⟩)) (.pointer (some ⟨t, 0, none⟩)) (.pointer (some ⟨t, 2, none⟩)) v (.agg (brow leaf)) (.agg (partC leaf (.pointer none)).toArray) _ _ _ _ _ _ _
    (fun w' => Kept v.ownBlock.toList X w')
    (fun w' => Kept [] X w')
    (fun u0 w' => (∃ H, u0 = .slice (some ⟨H, 0, none⟩) 1 1 ∧ w'.heap[H]? = some (.cells (partC leaf (.pointer none)).toArray 87 (0, 0))) ∧ Kept [] X w')
    (fun u0 u1 w' => (∃ g cap, u1 = .slice (some ⟨g, 0, none⟩) (n + 1) cap ∧ w'.ownsRow base 87 33 (.slice (some ⟨g, 0, none⟩) (n + 1) cap) (n + 1) (xs ++ partC leaf (.pointer none)) ∧ (v.ownBlock = some g ∨ w.heap.size ≤ g)) ∧ Kept v.ownBlock.toList X w')
    (fun u0 u1 u2 w' => u2 = .pointer (some ⟨t, 0, none⟩) ∧ (∃ g cap, u1 = .slice (some ⟨g, 0, none⟩) (n + 1) cap ∧ w'.ownsRow base 87 33 (.slice (some ⟨g, 0, none⟩) (n + 1) cap) (n + 1) (xs ++ partC leaf (.pointer none)) ∧ (v.ownBlock = some g ∨ w.heap.size ≤ g)) ∧ Kept v.ownBlock.toList X w')
    (fun u0 u1 u2 u3 w' => u3 = .pointer (some ⟨t, 2, none⟩) ∧ u2 = .pointer (some ⟨t, 0, none⟩) ∧ (∃ g cap, u1 = .slice (some ⟨g, 0, none⟩) (n + 1) cap ∧ w'.ownsRow base 87 33 (.slice (some ⟨g, 0, none⟩) (n + 1) cap) (n + 1) (xs ++ partC leaf (.pointer none)) ∧ (v.ownBlock = some g ∨ w.heap.size ≤ g)) ∧ Kept v.ownBlock.toList X w')
    (fun u0 u1 u2 u3 w' => (∃ g cap, u1 = .slice (some ⟨g, 0, none⟩) (n + 1) cap ∧ w'.ownsRow base 87 33 (.slice (some ⟨g, 0, none⟩) (n + 1) cap) (n + 1) (xs ++ partC leaf (.pointer none)) ∧ (v.ownBlock = some g ∨ w.heap.size ≤ g) ∧ w'.heap[t]? = some (.cells #[.int .i64 z, .int .u64 (N : Int), .slice (some ⟨g, 0, none⟩) (n + 1) cap] 83 (0, 0))) ∧ Kept (t :: v.ownBlock.toList) X w')
    (by simp only [Act.put, List.setIfInBounds_toArray, List.set_cons_zero, List.set_cons_succ]; rfl) (by exact Or.inl ⟨by rfl, fun W' hW' => by go_simp⟩)
    (by simp only [Act.put, List.setIfInBounds_toArray, List.set_cons_zero, List.set_cons_succ]; rfl) (by exact Or.inl ⟨by rfl, fun W' hW' => by go_simp⟩)
    (by simp only [Act.put, List.setIfInBounds_toArray, List.set_cons_zero, List.set_cons_succ]; rfl) (by exact Or.inl ⟨by rfl, fun W' hW' => by go_simp⟩)
    (by simp only [Act.put, List.setIfInBounds_toArray, List.set_cons_zero, List.set_cons_succ]; rfl) (by exact Or.inl ⟨by rfl, fun W' hW' => by go_simp⟩)
    (by simp only [Act.put, List.setIfInBounds_toArray, List.set_cons_zero, List.set_cons_succ]; rfl) (by exact Or.inl ⟨by rfl, fun W' hW' => by have h9 := hW'.cell cq (by intro hm; simp only [Option.mem_toList] at hm; have := hvb _ hm; omega); go_simp⟩)
    (by simp only [Act.put, List.setIfInBounds_toArray, List.set_cons_zero, List.set_cons_succ]; rfl) (by
      refine Or.inl ⟨by rfl, fun W' hW' => ?_⟩
      have h9 := run_loadVar_row (P := Tryd.prog) W' w.heap.size 23 23 (brow leaf) (0, 0) _ (hW'.heap (unhide HGX) (by intro hm; simp only [Option.mem_toList] at hm; have := hvb _ hm; omega)) Tryd.underlying23 rfl (by rw [hlb]; exact Tryd.size_dig)
      unfold execOp
      simp only [Instr.loadAt, Instr.sureAddr, Sem.run_bind, Sem.run_pure, Result.andThen_ok]
      change ((Sem.run Tryd.prog (loadVar 23 ⟨w.heap.size, 0, none⟩) W').andThen fun a w' => Result.ok (Next.value a) w') = _
      rw [h9]
      rfl)
    (by simp only [Act.put, List.setIfInBounds_toArray, List.set_cons_zero, List.set_cons_succ]; rfl) (by
      refine Or.inl ⟨by rfl, fun W' hW' => ?_⟩
      unfold execOp
      go_simp
      exact build_part leaf hl.1)
    (Kept.refl [] X).drew
    ⟨fun w' h => h.mono (by simp), fun u0 w' h => h.2.mono (by simp), fun u0 u1 w' h => h.2, fun u0 u1 u2 w' h => h.2.2, fun u0 u1 u2 u3 w' h => h.2.2.2⟩
    (by
      intro w' i K hK
      have hp33 := partC_len (k := .pointer none) hl.1
      have hb1 := hide (build_one leaf (.pointer none) hl.1)
      unfold Oper.wp execOp
      go_simp
      exact hK _ _ ⟨⟨_, rfl, (heap_alloc_new w' _).trans (by rw [← unhide hb1]; rfl)⟩, i.alloc _⟩)
    (by
      rintro u0 w' ⟨⟨H, rfl, hH⟩, i⟩ K hK
      obtain ⟨g, cap, w1, hrun, h3, h4, h5⟩ := pushK w' base v n xs leaf (.pointer none) H (i.owns (unhide HOX) (by simp)) hH hl.1 rfl (by omega) (by have := i.size; omega)
      exact wp_appendT rfl rfl rfl rfl hrun (hK _ _ ⟨⟨_, _, rfl, h3, h5.elim Or.inl (fun e => Or.inr (by have := i.size; omega))⟩, (i.mono (by simp)).grown h4 (by intro k hk; left; simp [hk])⟩))
    (by rintro u0 u1 w' ⟨⟨g, cap, rfl, h3, h8⟩, i⟩ K hK; unfold Oper.wp execOp; go_simp; exact hK _ _ ⟨rfl, ⟨_, _, rfl, h3, h8⟩, i⟩)
    (by rintro u0 u1 u2 w' ⟨rfl, ⟨g, cap, rfl, h3, h8⟩, i⟩ K hK; unfold Oper.wp execOp; go_simp; exact hK _ _ ⟨rfl, rfl, ⟨_, _, rfl, h3, h8⟩, i⟩)
    (by
      rintro u0 u1 u2 u3 w' ⟨rfl, rfl, ⟨g, cap, rfl, h3, h8⟩, i⟩ K hK
      have hq := i.heap (unhide HRX) (by intro hm; simp only [Option.mem_toList] at hm; have := hvb _ hm; omega)
      have cq9 := cell_of_row _ _ 2 _ _ _ hq
      have fz9 : w'.frozen? ⟨t, 2, none⟩ = false := by simp [World.frozen?, hq]
      have hset := heap_setCell_same w' t 2 _ 83 (.slice (some ⟨g, 0, none⟩) (n + 1) cap) hq
      have kS := (Kept.refl [t] w').setCell (p := ⟨t, 2, none⟩) (Or.inl (by simp)) (.slice (some ⟨g, 0, none⟩) (n + 1) cap)
      unfold Oper.wp execOp
      go_simp
      exact hK _ ⟨⟨_, _, rfl, kS.owns h3 (by intro b hb hm; simp [Value.ownBlock] at hb hm; subst hb; exact owns_ne h3 hq (by decide) hm.symm), h8, hset⟩, (i.mono (by simp; intro x hx; right; exact hx)).setCell (Or.inl (by simp)) _⟩)
    ?_
  rintro u0 u1 u2 u3 Y ⟨⟨g, cap, rfl, hO, hlie, hq⟩, kY⟩
  simp only [Act.put, List.setIfInBounds_toArray, List.set_cons_zero, List.set_cons_succ]
  have HO := hide hO
  have HLie := hide hlie
  have HQ := hide hq
  have HKY := hide kY
  have d1 := cell_of_row _ _ 1 _ _ _ hq
  have y1 := frozen_of_row _ _ 1 _ _ hq
  simp at d1
  clear hO hq kY cq hlb HGX HRX HOX hlie
  have hN' : (N : Int) + 1 < 18446744073709551616 := by omega
  have HQ2 := hide (heap_setCell_same _ _ 1 _ _ (.int .u64 ((N : Int) + 1)) (unhide HQ))
  have HK2 := hide ((unhide HKY).setCell (p := ⟨t, 1, none⟩) (Or.inl (by simp)) (.int .u64 ((N : Int) + 1)))
  have HOY := hide ((((Kept.refl [t] Y).setCell (p := ⟨t, 1, none⟩) (Or.inl (by simp)) (.int .u64 ((N : Int) + 1))).owns (unhide HO) (by intro b hb hm; simp [Value.ownBlock] at hb hm; subst hb; exact owns_ne (unhide HO) (unhide HQ) (by decide) hm.symm)))
  go_wp2_with fail
  obtain ⟨Z, hZ⟩ : ∃ Z, Y.setCell ⟨t, 1, none⟩ (.int .u64 ((N : Int) + 1)) = Z := ⟨_, rfl⟩
  rw [hZ] at HQ2 HK2 HOY ⊢
  clear hZ
  have e1 : (N : Int) + 1 = ((N + 1 : Nat) : Int) := by omega
  rw [e1] at HQ2 ⊢
  clear e1
  have HKZ := hide (((unhide HKX).mono (by simp)).trans (unhide HK2) (by intro x hx; left; exact hx) : Kept (t :: v.ownBlock.toList) w Z)
  obtain ⟨m, hcm⟩ := ctz_form (M := N + 1) (by omega) (by omega)
  have HR0 := hide (unhide HST Z g cap (unhide HKZ) (unhide HV0) (unhide HT0) (by simpa using unhide HQ2) (unhide HOY) (unhide HLie))
  have HFI := hide (fun front top g1 cap1 wr (h : PuRel z t (N + 1) base v ps leaf w (Lib.ctz 64 (N + 1)) front top g1 cap1 wr) => h.fin hcm)
  refine (tz64_any (N + 1) Z (by omega) (by omega) (unhide H6w Z ((unhide HKX).mono (by simp) |>.trans (unhide HK2) (by intro x hx; left; exact hx)))).mono ?_
  rintro e w3 ⟨rfl, rfl⟩
  clear hN' d1 y1 HQ HKY HO
  clear HST HOY HQ2 HLie HV0 HT0
  have hc64 := (Lib.lowest_bit 64 (N + 1) (by omega) (by omega)).2
  generalize Lib.ctz 64 (N + 1) = c at hcm HFI hc64 ⊢
  have HCM := hide hcm
  clear hcm
  have hMb : N + 1 ≤ 1000000001 := by omega
  generalize N + 1 = M at HCM HR0 HFI hMb ⊢
  go_wp2_with fail
  go_loopw [30] (fun t30 wr => ∃ (i : Nat) (front : List Pk) (top : Pk) (g1 cap1 : Nat), i ≤ c ∧ t30 = .int .i64 i ∧ Hid (PuRel z t M base v ps leaf w i front top g1 cap1 wr)) (fun t _ => c - (intOf t).toNat)
  case atStart => exact ⟨0, _, _, _, _, Nat.zero_le _, rfl, HR0⟩
  case round =>
    obtain ⟨i, front, top, g1, cap1, hi, rfl, HRL⟩ := hrel
    by_cases hlt : i < c
    · have hlt' : (i : Int) < c := by omega
      obtain ⟨front2, pa, hfr, HF0⟩ := (unhide HRL).facts hw (unhide HCM) hlt
      subst hfr
      have HF := hide HF0
      have cq := HF0.cq
      have cz := HF0.cz
      have htg := HF0.tg
      have hjM := HF0.jM
      have hjc0 := HF0.jc
      have hg1w := HF0.gw
      have hbg1 := HF0.bw
      have Hpa := hide HF0.ra
      have Htop := hide HF0.rt
      have HDGpa := hide HF0.la
      have HDGtop := hide HF0.lt
      have HOpa := hide HF0.oa
      have HOtop := hide HF0.ot
      clear HF0
      obtain ⟨j, hj⟩ : ∃ j, front2.length = j := ⟨_, rfl⟩
      rw [hj] at cq Hpa Htop hjM hjc0
      have hcap : (j : Int) + 2 ≤ 1000000001 := by omega
      have ix0 : ¬ (j : Int) + 1 < 0 := by omega
      have ix1 : ¬ (j : Int) + 2 ≤ j := by omega
      have ix2 : ¬ (j : Int) + 2 ≤ (j : Int) + 1 := by omega
      have wj : IntKind.i64.wrap ((j : Int) + 1) = (j : Int) + 1 := by simp [IntKind.wrap, IntKind.signed, IntKind.bits]; omega
      go_wp2_with fail
      refine wp_pu19 (by kernel_rfl) (by kernel_rfl) (by kernel_rfl) (by kernel_rfl) (by kernel_rfl) (by kernel_rfl) (by kernel_rfl) (by kernel_rfl) (by kernel_rfl) (by kernel_rfl) (by kernel_rfl) (by kernel_rfl) (by kernel_rfl) (by kernel_rfl) (by kernel_rfl) (by kernel_rfl) (by kernel_rfl) (by kernel_rfl) (by kernel_rfl) (by kernel_rfl) (by kernel_rfl) (by kernel_rfl) (by kernel_rfl) (by kernel_rfl) (by kernel_rfl) (by kernel_rfl) (by kernel_rfl) (by kernel_rfl) (by kernel_rfl) (by kernel_rfl) (by kernel_rfl) (by kernel_rfl) (by kernel_rfl) (by kernel_rfl) (by kernel_rfl) (by kernel_rfl) (by kernel_rfl) (by kernel_rfl) rfl rfl rfl rfl (by simp)
        (Value.pointer (some ⟨t, 0, none⟩)) (Value.pointer (some ⟨t, 0, none⟩)) (Value.pointer (some ⟨t, 2, none⟩)) (Value.slice (some ⟨g1, 0, none⟩) (j + 2) cap1) (.int .i64 (j : Int)) (.pointer (some ⟨g1, j * 33, none⟩)) (Value.agg (partC pa.s pa.k).toArray) (Value.pointer (some ⟨t, 0, none⟩)) (Value.pointer (some ⟨t, 0, none⟩)) (Value.pointer (some ⟨t, 2, none⟩)) (Value.slice (some ⟨g1, 0, none⟩) (j + 2) cap1) (.int .i64 (j : Int)) (.int .i64 ((j : Int) + 1)) (.pointer (some ⟨g1, (j + 1) * 33, none⟩)) (Value.agg (partC top.s top.k).toArray) _ _ _ _ _ _ _ _ _ _ _ _ _ _ _
        (fun w' => Kept [] wr w')
        (fun w' => Kept [] wr w')
        (fun u w' => ∃ gl, u = .pointer (some ⟨gl, 0, none⟩) ∧ wr.heap.size ≤ gl ∧ w'.heap[gl]? = some (.cells zP 87 (0, 0)) ∧ Kept [] wr w')
        (fun u w' => ∃ gl, u = .pointer (some ⟨gl, 0, none⟩) ∧ wr.heap.size ≤ gl ∧ w'.heap[gl]? = some (.cells zP 87 (0, 0)) ∧ Kept [] wr w')
        (fun u u' w' => ∃ gl gr, u = .pointer (some ⟨gl, 0, none⟩) ∧ u' = .pointer (some ⟨gr, 0, none⟩) ∧ gl ≠ gr ∧ wr.heap.size ≤ gl ∧ wr.heap.size ≤ gr ∧ w'.heap[gl]? = some (.cells zP 87 (0, 0)) ∧ w'.heap[gr]? = some (.cells zP 87 (0, 0)) ∧ Kept [] wr w')
        (fun u u' _ w' => ∃ gl gr, u = .pointer (some ⟨gl, 0, none⟩) ∧ u' = .pointer (some ⟨gr, 0, none⟩) ∧ gl ≠ gr ∧ wr.heap.size ≤ gl ∧ wr.heap.size ≤ gr ∧ w'.heap[gl]? = some (.cells (partC pa.s pa.k).toArray 87 (0, 0)) ∧ w'.heap[gr]? = some (.cells zP 87 (0, 0)) ∧ Kept [] wr w')
        (fun u u' _ _ w' => ∃ gl gr, u = .pointer (some ⟨gl, 0, none⟩) ∧ u' = .pointer (some ⟨gr, 0, none⟩) ∧ gl ≠ gr ∧ wr.heap.size ≤ gl ∧ wr.heap.size ≤ gr ∧ w'.heap[gl]? = some (.cells (partC pa.s pa.k).toArray 87 (0, 0)) ∧ w'.heap[gr]? = some (.cells (partC top.s top.k).toArray 87 (0, 0)) ∧ Kept [] wr w')
        (by simp only [Act.put, List.setIfInBounds_toArray, List.set_cons_zero, List.set_cons_succ]; rfl) (by exact Or.inl ⟨by rfl, fun W' hW' => by go_simp⟩)
        (by simp only [Act.put, List.setIfInBounds_toArray, List.set_cons_zero, List.set_cons_succ]; rfl) (by exact Or.inl ⟨by rfl, fun W' hW' => by go_simp⟩)
        (by simp only [Act.put, List.setIfInBounds_toArray, List.set_cons_zero, List.set_cons_succ]; rfl) (by exact Or.inl ⟨by rfl, fun W' hW' => by go_simp⟩)
        (by simp only [Act.put, List.setIfInBounds_toArray, List.set_cons_zero, List.set_cons_succ]; rfl) (by exact Or.inl ⟨by rfl, fun W' hW' => by have h9 := hW'.cell cq (by simp); go_simp⟩)
        (by simp only [Act.put, List.setIfInBounds_toArray, List.set_cons_zero, List.set_cons_succ]; rfl) (by exact Or.inl ⟨by rfl, fun W' hW' => by go_simp⟩)
        (by simp only [Act.put, List.setIfInBounds_toArray, List.set_cons_zero, List.set_cons_succ]; rfl) (by exact Or.inl ⟨by rfl, fun W' hW' => by go_simp⟩)
        (by simp only [Act.put, List.setIfInBounds_toArray, List.set_cons_zero, List.set_cons_succ]; rfl) (by
          refine Or.inl ⟨by rfl, fun W' hW' => ?_⟩
          have h9 := run_loadVar_mid (P := Tryd.prog) W' g1 (j * 33) 87 (partC pa.s pa.k) _ (fun k u hk => hW'.cell (unhide Hpa k u hk) (by simp)) Tryd.underlying87 rfl (by rw [partC_len (unhide HDGpa)]; exact size_part)
          unfold execOp
          simp only [Instr.loadAt, Instr.sureAddr, Sem.run_bind, Sem.run_pure, Result.andThen_ok]
          change ((Sem.run Tryd.prog (loadVar 87 ⟨g1, j * 33, none⟩) W').andThen fun a w' => Result.ok (Next.value a) w') = _
          rw [h9]
          rfl)
        (by simp only [Act.put, List.setIfInBounds_toArray, List.set_cons_zero, List.set_cons_succ]; rfl) (by exact Or.inl ⟨by rfl, fun W' hW' => by go_simp⟩)
        (by simp only [Act.put, List.setIfInBounds_toArray, List.set_cons_zero, List.set_cons_succ]; rfl) (by exact Or.inl ⟨by rfl, fun W' hW' => by go_simp⟩)
        (by simp only [Act.put, List.setIfInBounds_toArray, List.set_cons_zero, List.set_cons_succ]; rfl) (by exact Or.inl ⟨by rfl, fun W' hW' => by go_simp⟩)
        (by simp only [Act.put, List.setIfInBounds_toArray, List.set_cons_zero, List.set_cons_succ]; rfl) (by exact Or.inl ⟨by rfl, fun W' hW' => by have h9 := hW'.cell cq (by simp); go_simp⟩)
        (by simp only [Act.put, List.setIfInBounds_toArray, List.set_cons_zero, List.set_cons_succ]; rfl) (by exact Or.inl ⟨by rfl, fun W' hW' => by go_simp⟩)
        (by simp only [Act.put, List.setIfInBounds_toArray, List.set_cons_zero, List.set_cons_succ]; rfl) (by exact Or.inl ⟨by rfl, fun W' hW' => by go_simp⟩)
        (by simp only [Act.put, List.setIfInBounds_toArray, List.set_cons_zero, List.set_cons_succ]; rfl) (by exact Or.inl ⟨by rfl, fun W' hW' => by go_simp⟩)
        (by simp only [Act.put, List.setIfInBounds_toArray, List.set_cons_zero, List.set_cons_succ]; rfl) (by
          refine Or.inl ⟨by rfl, fun W' hW' => ?_⟩
          have h9 := run_loadVar_mid (P := Tryd.prog) W' g1 ((j + 1) * 33) 87 (partC top.s top.k) _ (fun k u hk => hW'.cell (unhide Htop k u hk) (by simp)) Tryd.underlying87 rfl (by rw [partC_len (unhide HDGtop)]; exact size_part)
          unfold execOp
          simp only [Instr.loadAt, Instr.sureAddr, Sem.run_bind, Sem.run_pure, Result.andThen_ok]
          change ((Sem.run Tryd.prog (loadVar 87 ⟨g1, (j + 1) * 33, none⟩) W').andThen fun a w' => Result.ok (Next.value a) w') = _
          rw [h9]
          rfl)
        (Kept.refl [] wr).drew
        ⟨fun w' h => h, fun u w' ⟨gl, _, _, _, k⟩ => k, fun u w' ⟨gl, _, _, _, k⟩ => k, fun u u' w' ⟨gl, gr, _, _, _, _, _, _, _, k⟩ => k, fun u u' _ w' ⟨gl, gr, _, _, _, _, _, _, _, k⟩ => k, fun u u' _ _ w' ⟨gl, gr, _, _, _, _, _, _, _, k⟩ => k⟩
        (by intro w' i K hK; unfold Oper.wp execOp; go_simp; exact hK _ _ ⟨_, rfl, i.size, heap_alloc_new w' (.cells zP 87), i.alloc _⟩)
        (by intro w' i K hK; unfold Oper.wp execOp; go_simp; exact hK _ _ ⟨_, rfl, i.size, heap_alloc_new w' (.cells zP 87), i.alloc _⟩)
        (by rintro u w' ⟨gl, rfl, h1, h2, i⟩ K hK; unfold Oper.wp execOp; go_simp; exact hK _ _ ⟨gl, _, rfl, rfl, by have := lt_of_block h2; omega, h1, i.size, ((Kept.refl [] w').alloc (.cells zP 87)).heap h2 (by simp), heap_alloc_new w' (.cells zP 87), i.alloc _⟩)
        (by rintro u w' ⟨gr, rfl, h1, h2, i⟩ K hK; unfold Oper.wp execOp; go_simp; exact hK _ _ ⟨_, gr, rfl, rfl, by have := lt_of_block h2; omega, i.size, h1, heap_alloc_new w' (.cells zP 87), ((Kept.refl [] w').alloc (.cells zP 87)).heap h2 (by simp), i.alloc _⟩)
        (by
          rintro u u' w' ⟨gl, gr, rfl, rfl, hne, h1, h2, h3, h4, i⟩ K hK
          exact wp_store_row 87 _ _ rfl gl (partC pa.s pa.k).toArray rfl rfl _ zP h3 (by rw [List.size_toArray, partC_len (unhide HDGpa)]; exact size_part) (by rw [zP_size, List.size_toArray, partC_len (unhide HDGpa)]) (unhide HOpa) (hK _ _ ⟨gl, gr, rfl, rfl, hne, h1, h2, setRow_heap _ _ _ _ _ _ h3, (setRow_other w' gl gr _ (fun e => hne e.symm)).trans h4, i.setRow (Or.inr h1) _⟩))
        (by
          rintro u u' u17 w' ⟨gl, gr, rfl, rfl, hne, h1, h2, h3, h4, i⟩ K hK
          exact wp_store_row 87 _ _ rfl gr (partC top.s top.k).toArray rfl rfl _ zP h4 (by rw [List.size_toArray, partC_len (unhide HDGtop)]; exact size_part) (by rw [zP_size, List.size_toArray, partC_len (unhide HDGtop)]) (unhide HOtop) (hK _ _ ⟨gl, gr, rfl, rfl, hne, h1, h2, (setRow_other w' gr gl _ hne).trans h3, setRow_heap _ _ _ _ _ _ h4, i.setRow (Or.inr h2) _⟩))
        ?_
      rintro u15 u16 u17 u18 W6 ⟨gl, gr, rfl, rfl, hne, hgl, hgr, hL6, hR6, k6⟩
      simp only [Act.put, List.setIfInBounds_toArray, List.set_cons_zero, List.set_cons_succ]
      go_wp2_with fail
      have cq6 : W6.cell? ⟨t, 2, none⟩ = some (Value.slice (some ⟨g1, 0, none⟩) (j + 2) cap1) := k6.cell cq (by simp)
      have cz6 : W6.cell? ⟨t, 0, none⟩ = some (.int .i64 z) := k6.cell cz (by simp)
      have hgl1 : ¬ gl = g1 := by omega
      have hgr1 : ¬ gr = g1 := by omega
      have hg1W : g1 < W6.heap.size := Nat.lt_of_lt_of_le hg1w k6.size
      have HLp := hide (range_rowV hL6 : W6.rangeAt gl 0 (partC pa.s pa.k))
      have HRp := hide (range_rowV hR6 : W6.rangeAt gr 0 (partC top.s top.k))
      have HLs := hide (range_part (unhide HLp) : W6.rangeAt gl 0 (pa.s.map u8))
      have HRs := hide (range_part (unhide HRp) : W6.rangeAt gr 0 (top.s.map u8))
      have HT6 := hide (k6.heap (unhide HRL).row (by simp))
      have HO6 := hide (k6.owns (owns_front (unhide HRL).own hj (unhide HF).la (unhide HF).lt (fun p hp => ((unhide HRL).pa p (by simp [hp])).dg.1)) (by simp))
      simp only [List.length_append, List.length_cons, List.length_nil, Nat.zero_add, hj, Nat.add_assoc, Nat.reduceAdd] at HT6
      have hbW : base ≤ W6.heap.size := by omega
      have HK6 := hide k6
      have HOV := hide (fun (w' : World) (k : Kept [] W6 w') => overT_any z pa.s top.s w' hw (unhide HF).da (unhide HF).dt (unhide HF).fa (unhide HF).ft (unhide HTw w' (((unhide HRL).kept.trans k6 (by simp)).trans k (by simp))))
      clear k6 hL6 hR6
      have hjc : (j : Int) ≤ cap1 := by omega
      have hj0 : ¬ (j : Int) < 0 := by omega
      refine wp_pu26 (by kernel_rfl) (by kernel_rfl) (by kernel_rfl) (by kernel_rfl) (by kernel_rfl) (by kernel_rfl) (by kernel_rfl) (by kernel_rfl) (by kernel_rfl) (by kernel_rfl) (by kernel_rfl) (by kernel_rfl) (by kernel_rfl) (by kernel_rfl) (by kernel_rfl) (by kernel_rfl) (by kernel_rfl) (by kernel_rfl) (by kernel_rfl) (by kernel_rfl) (by kernel_rfl) (by kernel_rfl) (by kernel_rfl) (by kernel_rfl) (by kernel_rfl) (by kernel_rfl) (by kernel_rfl) (by kernel_rfl) (by kernel_rfl) (by kernel_rfl) (by kernel_rfl) (by kernel_rfl) (by kernel_rfl) (by kernel_rfl) (by kernel_rfl) (by kernel_rfl) (by kernel_rfl) (by kernel_rfl) (by kernel_rfl) (by kernel_rfl) (by kernel_rfl) (by kernel_rfl) (by kernel_rfl) (by kernel_rfl) (by kernel_rfl) (by kernel_rfl) (by kernel_rfl) (by kernel_rfl) (by kernel_rfl) (by kernel_rfl) (by kernel_rfl) (by kernel_rfl) (by kernel_rfl) (by kernel_rfl) (by kernel_rfl) (by kernel_rfl) (by kernel_rfl) (by kernel_rfl) (by kernel_rfl) rfl rfl (by simp) (by kernel_rfl) rfl (by kernel_rfl) rfl (by kernel_rfl) rfl (by kernel_rfl) rfl (by kernel_rfl) rfl (by kernel_rfl) rfl (by kernel_rfl)
        (Value.pointer (some ⟨t, 0, none⟩)) (Value.pointer (some ⟨t, 0, none⟩)) (Value.pointer (some ⟨t, 0, none⟩)) (Value.pointer (some ⟨t, 2, none⟩)) (Value.slice (some ⟨g1, 0, none⟩) (j + 2) cap1) (.int .i64 (j : Int)) (.slice (some ⟨g1, 0, none⟩) j cap1) (Value.pointer (some ⟨t, 0, none⟩)) (Value.pointer (some ⟨t, 0, none⟩)) (.pointer (some ⟨t, 0, none⟩)) (.int .i64 z) (.pointer (some ⟨gl, 0, none⟩)) (.agg (brow pa.s)) (.pointer (some ⟨gr, 0, none⟩)) (.agg (brow top.s)) (.agg (partC pa.s pa.k).toArray) (.agg (partC top.s top.k).toArray) (.agg (partC pa.s pa.k ++ partC top.s top.k).toArray) _ _ _ _ _ _ _ _ _ _ _ _ _ _ _ _ _ _
        (fun w' => Kept [g1] W6 w')
        (fun w' => Kept [] W6 w')
        (fun u0 w' => u0 = .agg (brow (nodT z pa.s top.s)) ∧ Kept [] W6 w')
        (fun u1 w' => (∃ gk, u1 = .pointer (some ⟨gk, 0, none⟩) ∧ W6.heap.size ≤ gk ∧ w'.heap[gk]? = some (.cells (partC pa.s pa.k ++ partC top.s top.k).toArray 109 (0, 0))) ∧ Kept [] W6 w')
        (fun u0 u1 w' => u0 = .agg (brow (nodT z pa.s top.s)) ∧ (∃ gk, u1 = .pointer (some ⟨gk, 0, none⟩) ∧ W6.heap.size ≤ gk ∧ w'.heap[gk]? = some (.cells (partC pa.s pa.k ++ partC top.s top.k).toArray 109 (0, 0))) ∧ Kept [] W6 w')
        (fun u0 u1 u2 w' => (∃ gk, u1 = .pointer (some ⟨gk, 0, none⟩) ∧ W6.heap.size ≤ gk ∧ w'.heap[gk]? = some (.cells (partC pa.s pa.k ++ partC top.s top.k).toArray 109 (0, 0)) ∧ u2 = .agg (partC (nodT z pa.s top.s) (.pointer (some ⟨gk, 0, none⟩))).toArray) ∧ Kept [] W6 w')
        (fun u0 u1 u2 u3 w' => (∃ gk, u1 = .pointer (some ⟨gk, 0, none⟩) ∧ W6.heap.size ≤ gk ∧ w'.heap[gk]? = some (.cells (partC pa.s pa.k ++ partC top.s top.k).toArray 109 (0, 0)) ∧ ∃ H, u3 = .slice (some ⟨H, 0, none⟩) 1 1 ∧ w'.heap[H]? = some (.cells (partC (nodT z pa.s top.s) (.pointer (some ⟨gk, 0, none⟩))).toArray 87 (0, 0))) ∧ Kept [] W6 w')
        (fun u0 u1 u2 u3 u4 w' => (∃ gk, u1 = .pointer (some ⟨gk, 0, none⟩) ∧ W6.heap.size ≤ gk ∧ w'.heap[gk]? = some (.cells (partC pa.s pa.k ++ partC top.s top.k).toArray 109 (0, 0)) ∧ (∃ g2 cap2, u4 = .slice (some ⟨g2, 0, none⟩) (j + 1) cap2 ∧ w'.ownsRow base 87 33 (.slice (some ⟨g2, 0, none⟩) (j + 1) cap2) (j + 1) (cellsK front2 ++ partC (nodT z pa.s top.s) (.pointer (some ⟨gk, 0, none⟩))) ∧ (g2 = g1 ∨ W6.heap.size ≤ g2))) ∧ Kept [g1] W6 w')
        (fun u0 u1 u2 u3 u4 u5 w' => u5 = (Value.pointer (some ⟨t, 0, none⟩)) ∧ (∃ gk, u1 = .pointer (some ⟨gk, 0, none⟩) ∧ W6.heap.size ≤ gk ∧ w'.heap[gk]? = some (.cells (partC pa.s pa.k ++ partC top.s top.k).toArray 109 (0, 0)) ∧ (∃ g2 cap2, u4 = .slice (some ⟨g2, 0, none⟩) (j + 1) cap2 ∧ w'.ownsRow base 87 33 (.slice (some ⟨g2, 0, none⟩) (j + 1) cap2) (j + 1) (cellsK front2 ++ partC (nodT z pa.s top.s) (.pointer (some ⟨gk, 0, none⟩))) ∧ (g2 = g1 ∨ W6.heap.size ≤ g2))) ∧ Kept [g1] W6 w')
        (fun u0 u1 u2 u3 u4 u5 u6 w' => u6 = (Value.pointer (some ⟨t, 2, none⟩)) ∧ u5 = (Value.pointer (some ⟨t, 0, none⟩)) ∧ (∃ gk, u1 = .pointer (some ⟨gk, 0, none⟩) ∧ W6.heap.size ≤ gk ∧ w'.heap[gk]? = some (.cells (partC pa.s pa.k ++ partC top.s top.k).toArray 109 (0, 0)) ∧ (∃ g2 cap2, u4 = .slice (some ⟨g2, 0, none⟩) (j + 1) cap2 ∧ w'.ownsRow base 87 33 (.slice (some ⟨g2, 0, none⟩) (j + 1) cap2) (j + 1) (cellsK front2 ++ partC (nodT z pa.s top.s) (.pointer (some ⟨gk, 0, none⟩))) ∧ (g2 = g1 ∨ W6.heap.size ≤ g2))) ∧ Kept [g1] W6 w')
        (fun u0 u1 u2 u3 u4 u5 u6 w' => (∃ gk, u1 = .pointer (some ⟨gk, 0, none⟩) ∧ W6.heap.size ≤ gk ∧ w'.heap[gk]? = some (.cells (partC pa.s pa.k ++ partC top.s top.k).toArray 109 (0, 0)) ∧ (∃ g2 cap2, u4 = .slice (some ⟨g2, 0, none⟩) (j + 1) cap2 ∧ w'.ownsRow base 87 33 (.slice (some ⟨g2, 0, none⟩) (j + 1) cap2) (j + 1) (cellsK front2 ++ partC (nodT z pa.s top.s) (.pointer (some ⟨gk, 0, none⟩))) ∧ (g2 = g1 ∨ W6.heap.size ≤ g2) ∧ w'.heap[t]? = some (.cells #[.int .i64 z, .int .u64 (M : Int), .slice (some ⟨g2, 0, none⟩) (j + 1) cap2] 83 (0, 0)))) ∧ Kept [t, g1] W6 w')
        (by simp only [Act.put, List.setIfInBounds_toArray, List.set_cons_zero, List.set_cons_succ]; rfl) (by exact Or.inl ⟨by rfl, fun W' hW' => by go_simp⟩)
        (by simp only [Act.put, List.setIfInBounds_toArray, List.set_cons_zero, List.set_cons_succ]; rfl) (by exact Or.inl ⟨by rfl, fun W' hW' => by go_simp⟩)
        (by simp only [Act.put, List.setIfInBounds_toArray, List.set_cons_zero, List.set_cons_succ]; rfl) (by exact Or.inl ⟨by rfl, fun W' hW' => by go_simp⟩)
        (by simp only [Act.put, List.setIfInBounds_toArray, List.set_cons_zero, List.set_cons_succ]; rfl) (by exact Or.inl ⟨by rfl, fun W' hW' => by go_simp⟩)
        (by simp only [Act.put, List.setIfInBounds_toArray, List.set_cons_zero, List.set_cons_succ]; rfl) (by exact Or.inl ⟨by rfl, fun W' hW' => by have h9 := hW'.cell cq6 (by simpa using htg); go_simp⟩)
        (by simp only [Act.put, List.setIfInBounds_toArray, List.set_cons_zero, List.set_cons_succ]; rfl) (by exact Or.inl ⟨by rfl, fun W' hW' => by go_simp⟩)
        (by simp only [Act.put, List.setIfInBounds_toArray, List.set_cons_zero, List.set_cons_succ]; rfl) (by exact Or.inl ⟨by rfl, fun W' hW' => by go_simp⟩)
        (by simp only [Act.put, List.setIfInBounds_toArray, List.set_cons_zero, List.set_cons_succ]; rfl) (by exact Or.inl ⟨by rfl, fun W' hW' => by go_simp⟩)
        (by simp only [Act.put, List.setIfInBounds_toArray, List.set_cons_zero, List.set_cons_succ]; rfl) (by exact Or.inl ⟨by rfl, fun W' hW' => by go_simp⟩)
        (by simp only [Act.put, List.setIfInBounds_toArray, List.set_cons_zero, List.set_cons_succ]; rfl) (by exact Or.inl ⟨by rfl, fun W' hW' => by go_simp⟩)
        (by simp only [Act.put, List.setIfInBounds_toArray, List.set_cons_zero, List.set_cons_succ]; rfl) (by exact Or.inl ⟨by rfl, fun W' hW' => by have h9 := hW'.cell cz6 (by simpa using htg); go_simp⟩)
        (by simp only [Act.put, List.setIfInBounds_toArray, List.set_cons_zero, List.set_cons_succ]; rfl) (by exact Or.inl ⟨by rfl, fun W' hW' => by go_simp⟩)
        (by simp only [Act.put, List.setIfInBounds_toArray, List.set_cons_zero, List.set_cons_succ]; rfl) (by
          refine Or.inl ⟨by rfl, fun W' hW' => ?_⟩
          have h9 := run_loadVar_mid (P := Tryd.prog) W' gl 0 23 (pa.s.map u8) _ (fun k u hk => hW'.cell (unhide HLs k u hk) (by simpa using hgl1)) Tryd.underlying23 rfl (by rw [List.length_map, unhide HDGpa]; exact Tryd.size_dig)
          unfold execOp
          simp only [Instr.loadAt, Instr.sureAddr, Sem.run_bind, Sem.run_pure, Result.andThen_ok]
          change ((Sem.run Tryd.prog (loadVar 23 ⟨gl, 0, none⟩) W').andThen fun a w' => Result.ok (Next.value a) w') = _
          rw [h9]
          rfl)
        (by simp only [Act.put, List.setIfInBounds_toArray, List.set_cons_zero, List.set_cons_succ]; rfl) (by exact Or.inl ⟨by rfl, fun W' hW' => by go_simp⟩)
        (by simp only [Act.put, List.setIfInBounds_toArray, List.set_cons_zero, List.set_cons_succ]; rfl) (by
          refine Or.inl ⟨by rfl, fun W' hW' => ?_⟩
          have h9 := run_loadVar_mid (P := Tryd.prog) W' gr 0 23 (top.s.map u8) _ (fun k u hk => hW'.cell (unhide HRs k u hk) (by simpa using hgr1)) Tryd.underlying23 rfl (by rw [List.length_map, unhide HDGtop]; exact Tryd.size_dig)
          unfold execOp
          simp only [Instr.loadAt, Instr.sureAddr, Sem.run_bind, Sem.run_pure, Result.andThen_ok]
          change ((Sem.run Tryd.prog (loadVar 23 ⟨gr, 0, none⟩) W').andThen fun a w' => Result.ok (Next.value a) w') = _
          rw [h9]
          rfl)
        (by simp only [Act.put, List.setIfInBounds_toArray, List.set_cons_zero, List.set_cons_succ]; rfl) (by
          refine Or.inl ⟨by rfl, fun W' hW' => ?_⟩
          have h9 := run_loadVar_mid (P := Tryd.prog) W' gl 0 87 (partC pa.s pa.k) _ (fun k u hk => hW'.cell (unhide HLp k u hk) (by simpa using hgl1)) Tryd.underlying87 rfl (by rw [partC_len (unhide HDGpa)]; exact size_part)
          unfold execOp
          simp only [Instr.loadAt, Instr.sureAddr, Sem.run_bind, Sem.run_pure, Result.andThen_ok]
          change ((Sem.run Tryd.prog (loadVar 87 ⟨gl, 0, none⟩) W').andThen fun a w' => Result.ok (Next.value a) w') = _
          rw [h9]
          rfl)
        (by simp only [Act.put, List.setIfInBounds_toArray, List.set_cons_zero, List.set_cons_succ]; rfl) (by
          refine Or.inl ⟨by rfl, fun W' hW' => ?_⟩
          have h9 := run_loadVar_mid (P := Tryd.prog) W' gr 0 87 (partC top.s top.k) _ (fun k u hk => hW'.cell (unhide HRp k u hk) (by simpa using hgr1)) Tryd.underlying87 rfl (by rw [partC_len (unhide HDGtop)]; exact size_part)
          unfold execOp
          simp only [Instr.loadAt, Instr.sureAddr, Sem.run_bind, Sem.run_pure, Result.andThen_ok]
          change ((Sem.run Tryd.prog (loadVar 87 ⟨gr, 0, none⟩) W').andThen fun a w' => Result.ok (Next.value a) w') = _
          rw [h9]
          rfl)
        (by simp only [Act.put, List.setIfInBounds_toArray, List.set_cons_zero, List.set_cons_succ]; rfl) (by
          refine Or.inl ⟨by rfl, fun W' hW' => ?_⟩
          have l1 := partC_len (k := pa.k) (unhide HDGpa)
          have l2 := partC_len (k := top.k) (unhide HDGtop)
          have hf := pair_fold (partC pa.s pa.k) (partC top.s top.k) l1 l2
          have hz : ¬ (List.foldl (fun cs x => cs.setIfInBounds x.snd x.fst) Tryd.zeroCells109 (partC pa.s pa.k).zipIdx).size < 66 := by rw [fold_size, z87_size]; omega
          unfold execOp
          go_simp)
        (Kept.refl [] W6).drew
        ⟨fun w' h => h.mono (by simp), fun u0 w' h => h.2.mono (by simp), fun u1 w' h => h.2.mono (by simp), fun u0 u1 w' h => h.2.2.mono (by simp), fun u0 u1 u2 w' h => h.2.mono (by simp), fun u0 u1 u2 u3 w' h => h.2.mono (by simp), fun u0 u1 u2 u3 u4 w' h => h.2, fun u0 u1 u2 u3 u4 u5 w' h => h.2.2, fun u0 u1 u2 u3 u4 u5 u6 w' h => h.2.2.2⟩
        (by intro w' i K hK; exact wp_callN rfl Tryd.call63 [.int .i64 z, .agg (brow pa.s), .agg (brow top.s)] rfl (unhide HOV w' i) (fun e w2 h => ⟨_, h.1, hK _ _ ⟨rfl, i.trans h.2 (by simp)⟩⟩))
        (by intro w' i K hK; unfold Oper.wp execOp; go_simp; exact hK _ _ ⟨⟨_, rfl, i.size, heap_alloc_new _ _⟩, i.alloc _⟩)
        (by rintro u0 w' ⟨rfl, i⟩ K hK; unfold Oper.wp execOp; go_simp; exact hK _ _ ⟨rfl, ⟨_, rfl, i.size, heap_alloc_new _ _⟩, i.alloc _⟩)
        (by rintro u1 w' ⟨⟨gk, rfl, h1, h2⟩, i⟩ K hK; exact wp_callN rfl Tryd.call63 [.int .i64 z, .agg (brow pa.s), .agg (brow top.s)] rfl (unhide HOV w' i) (fun e w2 h => ⟨_, h.1, hK _ _ ⟨rfl, ⟨gk, rfl, h1, h.2.heap h2 (by simp)⟩, i.trans h.2 (by simp)⟩⟩))
        (by
          intro u0 u1 w' hh K hK
          simp only [Act.put, List.setIfInBounds_toArray, List.set_cons_zero, List.set_cons_succ] at hK ⊢
          obtain ⟨rfl, ⟨gk, rfl, h1, h2⟩, i⟩ := hh
          exact wp_build_part _ _ rfl (nodT z pa.s top.s) (.pointer (some ⟨gk, 0, none⟩)) (nodS_dg z pa.s top.s).1 rfl rfl rfl (hK _ _ ⟨⟨gk, rfl, h1, h2, rfl⟩, i⟩))
        (by
          intro u0 u1 u2 w' hh K hK
          simp only [Act.put, List.setIfInBounds_toArray, List.set_cons_zero, List.set_cons_succ] at hK ⊢
          obtain ⟨⟨gk, rfl, h1, h2, rfl⟩, i⟩ := hh
          have hnl : (nodT z pa.s top.s).length = 32 := (nodS_dg z pa.s top.s).1
          have hp33 := partC_len (k := .pointer (some ⟨gk, 0, none⟩)) hnl
          have hb1 := hide (build_one (nodT z pa.s top.s) (.pointer (some ⟨gk, 0, none⟩)) hnl)
          unfold Oper.wp execOp
          go_simp
          exact hK _ _ ⟨⟨gk, rfl, h1, ((Kept.refl [] w').alloc _).heap h2 (by simp), _, rfl, (heap_alloc_new w' _).trans (by rw [← unhide hb1]; rfl)⟩, i.alloc _⟩)
        (by
          intro u0 u1 u2 u3 w' hh K hK
          simp only [Act.put, List.setIfInBounds_toArray, List.set_cons_zero, List.set_cons_succ] at hK ⊢
          obtain ⟨⟨gk, rfl, h1, h2, H, rfl, hH⟩, i⟩ := hh
          have hnl : (nodT z pa.s top.s).length = 32 := (nodS_dg z pa.s top.s).1
          obtain ⟨g2, cap2, w1, hrun, h3, h4, h5⟩ := pushK w' base (.slice (some ⟨g1, 0, none⟩) j cap1) j (cellsK front2) (nodT z pa.s top.s) (.pointer (some ⟨gk, 0, none⟩)) H (i.owns (unhide HO6) (by simp)) hH hnl rfl (by omega) (Nat.le_trans hbW i.size)
          have k4 : Kept [g1] w' w1 := (Kept.refl [g1] w').grown h4 (by intro k hk; left; simp [Value.ownBlock] at hk; simp [hk])
          exact wp_appendT rfl rfl rfl rfl hrun (hK _ _ ⟨⟨gk, rfl, h1, k4.heap h2 (by simp; omega), g2, cap2, rfl, h3, h5.elim (fun e => Or.inl (by simp [Value.ownBlock] at e; exact e.symm)) (fun e => Or.inr (by have := i.size; omega))⟩, (i.mono (by simp)).trans k4 (by simp)⟩))
        (by
          intro u0 u1 u2 u3 u4 w' hh K hK
          simp only [Act.put, List.setIfInBounds_toArray, List.set_cons_zero, List.set_cons_succ] at hK ⊢
          obtain ⟨⟨gk, rfl, h1, h2, g2, cap2, rfl, h3, h8⟩, i⟩ := hh
          unfold Oper.wp execOp; go_simp; exact hK _ _ ⟨rfl, ⟨gk, rfl, h1, h2, g2, cap2, rfl, h3, h8⟩, i⟩)
        (by
          intro u0 u1 u2 u3 u4 u5 w' hh K hK
          simp only [Act.put, List.setIfInBounds_toArray, List.set_cons_zero, List.set_cons_succ] at hK ⊢
          obtain ⟨rfl, ⟨gk, rfl, h1, h2, g2, cap2, rfl, h3, h8⟩, i⟩ := hh
          unfold Oper.wp execOp; go_simp; exact hK _ _ ⟨rfl, rfl, ⟨gk, rfl, h1, h2, g2, cap2, rfl, h3, h8⟩, i⟩)
        (by
          intro u0 u1 u2 u3 u4 u5 u6 w' hh K hK
          simp only [Act.put, List.setIfInBounds_toArray, List.set_cons_zero, List.set_cons_succ] at hK ⊢
          obtain ⟨rfl, rfl, ⟨gk, rfl, h1, h2, g2, cap2, rfl, h3, h8⟩, i⟩ := hh
          have hq := i.heap (unhide HT6) (by simpa using htg)
          have kS := (Kept.refl [t] w').setCell (p := ⟨t, 2, none⟩) (Or.inl (by simp)) (.slice (some ⟨g2, 0, none⟩) (j + 1) cap2)
          have htW := lt_of_block (unhide HT6)
          exact wp_store_t2 _ _ rfl t _ _ ⟨_, _, _, rfl⟩ rfl rfl hq (by simp) (hK _ ⟨⟨gk, rfl, h1, kS.heap h2 (by simp; omega), g2, cap2, rfl, kS.owns h3 (by intro b hb hm; simp [Value.ownBlock] at hb hm; subst hb; exact owns_ne h3 hq (by decide) hm.symm), h8, heap_setCell_same w' t 2 _ 83 (.slice (some ⟨g2, 0, none⟩) (j + 1) cap2) hq⟩, (i.mono (by simp)).setCell (Or.inl (by simp)) _⟩))
        ?_
      rintro u0 u1 u2 u3 u4 u5 u6 W7 ⟨⟨gk, rfl, h1, h2, g2, cap2, rfl, h3, h8, h9⟩, k7⟩
      simp only [Act.put, List.setIfInBounds_toArray, List.set_cons_zero, List.set_cons_succ]
      rw [← hj] at h3 h9
      have HR1 := hide ((unhide HRL).step (unhide HF) (unhide HK6) k7 h1 h2 h3 h9 h8)
      clear h1 h2 h3 h9 h8 k7 HT6 HO6 HOV HLs HRs HLp HRp HK6 HF HRL Hpa Htop cq6 cz6 cq cz
      have hi1 : (i : Int) + 1 < 9223372036854775808 := by omega
      go_wp2_with fail
      refine ⟨⟨i + 1, _, _, _, _, by omega, by simp, HR1⟩, ?_⟩
      simp [intOf]
      omega
    · have hie : i = c := by omega
      subst hie
      have HE := hide (unhide HFI _ _ _ _ _ (unhide HRL))
      go_wp2_with fail
      exact ⟨rfl, _, results_none rfl _ _ _, rfl, unhide HE⟩

end Go.Proofs.YtbljofojeagdkaaDoor
