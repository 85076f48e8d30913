import Derived.Test.YtbljofojeagdkaaDoorTopB
import Derived.Test.YtbljofojeagdkaaDoorRowz
import Derived.Deep.RegionHeld3
import Derived.Test.YtbljofojeagdkaaDoorTopA
import Derived.Test.YtbljofojeagdkaaDoorTopD
import Derived.Test.YtbljofojeagdkaaDoorTopC
import Derived.Test.YtbljofojeagdkaaDoorBase
import Derived.Test.YtbljofojeagdkaaDoorCards
import Derived.Test.YtbljofojeagdkaaDoorTie
import Derived.ProofKit
import Derived.OpenShut
import Derived.Deep.Slices
import Derived.SizedLaws
import Derived.Test.YtbljofojeagdkaaDoorDForm
namespace Go.Proofs.YtbljofojeagdkaaDoor
open Go.RowKit Go.BigFrame
set_option linter.unusedVariables false
set_option linter.unusedSimpArgs false

set_option maxRecDepth 100000 in
set_option maxHeartbeats 4000000 in
theorem push_any (z : Int) (t N base : Nat) (v : Value) (ps : List Pk) (leaf : List Nat) (w : World) (hrow : w.heap[t]? = some (.cells #[.int .i64 z, .int .u64 (N : Int), v] 83 (0, 0))) (hown0 : w.ownsRow base 87 33 v ps.length (cellsK ps)) (hpk : PKs z w ps) (hNl : N = (leavesK ps).length) (hN : N ≤ 1000000000) (hbw : base ≤ w.heap.size) (hw : widthB z = true) (hfar : Far t v) (hl : Dg leaf) (hf : formB z leaf = true) (hT : Tabs w) (h6 : Tab6 w) :
    Calls Tryd.prog 42 #[.pointer (some ⟨t, 0, none⟩), .agg (brow leaf)] w fun e w' => e = .returned (.tuple #[]) ∧ PushD z t N base v ps leaf w w' := by
  have hnp : ps.length ≤ N := by have := len_le_sum (ps.reverse.map (·.h)); rw [hNl, leavesK_len hpk.ok]; simpa using this
  obtain ⟨n, hn0⟩ : ∃ n, ps.length = n := ⟨_, rfl⟩
  obtain ⟨xs, hxs0⟩ : ∃ xs, cellsK ps = xs := ⟨_, rfl⟩
  have hown : w.ownsRow base 87 33 v n xs := by rw [← hn0, ← hxs0]; exact hown0
  have hn : n ≤ 1000000000 := by omega
  have HV0 := hide (by
    intro b hb
    rcases hown.2 with ⟨h9, _⟩ | ⟨g, cap, cur, h1, h2, h3, _⟩
    · rw [h9] at hb; simp [Value.ownBlock] at hb
    · rw [h1] at hb; simp [Value.ownBlock] at hb; subst hb; exact ⟨_, _, h3⟩ : ∀ b, v.ownBlock = some b → ∃ cs m, w.heap[b]? = some (.cells cs 87 m))
  have hvb : ∀ b, v.ownBlock = some b → b < w.heap.size ∧ ¬ b = t := fun b hb => ⟨(hown.lt b hb).2, fun e => by
    obtain ⟨cs, m, h9⟩ := unhide HV0 b hb
    rw [e, hrow] at h9; simp at h9⟩
  have HT0 := hide (⟨_, _, hrow⟩ : ∃ cs m, w.heap[t]? = some (.cells cs 83 m))
  have HST := hide (fun (wr : World) g1 cap1 => PuRel.start (t := t) (v := v) (wr := wr) (g1 := g1) (cap1 := cap1) (base := base) hpk hNl hl hf)
  rw [hn0, hxs0] at HST
  have HTw := hide (fun (W : World) (k : Kept (t :: v.ownBlock.toList) w W) => hfar.tabs hT k)
  have H6w := hide (fun (W : World) (k : Kept (t :: v.ownBlock.toList) w W) => hfar.tab6 h6 k)
  clear hnp hn0 hxs0 hown0 hpk hNl hf hT h6 hfar
  have kX := (Kept.refl [] w).alloc (.cells (brow leaf) 23)
  have HGX := hide (heap_alloc_new w (.cells (brow leaf) 23))
  have HRX := hide (kX.heap hrow (by simp))
  have HOX := hide (kX.owns hown (by simp))
  have hXs : (w.alloc (.cells (brow leaf) 23)).heap.size = w.heap.size + 1 := by simp
  go_enter Tryd.func42, Tryd.ntmps42
  go_wp2_with fail
  obtain ⟨X, hX⟩ : ∃ X, w.alloc (.cells (brow leaf) 23) = X := ⟨_, rfl⟩
  rw [hX] at HGX HRX HOX hXs kX ⊢
  have HKX := hide kX
  clear hX kX
  have cq : X.cell? ⟨t, 2, none⟩ = some v := cell_of_row _ _ 2 _ _ _ (unhide HRX)
  have hlb : (brow leaf).size = 32 := by rw [brow_size, hl.1]
  refine wp_pu12 (by kernel_rfl) (by kernel_rfl) (by kernel_rfl) (by kernel_rfl) (by kernel_rfl) (by kernel_rfl) (by kernel_rfl) (by kernel_rfl) (by kernel_rfl) (by kernel_rfl) (by kernel_rfl) (by kernel_rfl) (by kernel_rfl) (by kernel_rfl) (by kernel_rfl) (by kernel_rfl) (by kernel_rfl) (by kernel_rfl) (by kernel_rfl) (by kernel_rfl) (by kernel_rfl) (by kernel_rfl) (by kernel_rfl) (by kernel_rfl) rfl (by kernel_rfl) rfl (by kernel_rfl) rfl (by kernel_rfl) rfl (by kernel_rfl) rfl (by kernel_rfl)
    (.pointer (some ⟨t, 0, none⟩)) (.pointer (some ⟨t, 0, none⟩)) (.pointer (some ⟨t, 0, none⟩)) (.pointer (some ⟨t, 2, none⟩)) v (.agg (brow leaf)) (.agg (partC leaf (.pointer none)).toArray) _ _ _ _ _ _ _
    (fun w' => Kept v.ownBlock.toList X w')
    (fun w' => Kept [] X w')
    (fun u0 w' => (∃ H, u0 = .slice (some ⟨H, 0, none⟩) 1 1 ∧ w'.heap[H]? = some (.cells (partC leaf (.pointer none)).toArray 87 (0, 0))) ∧ Kept [] X w')
    (fun u0 u1 w' => (∃ g cap, u1 = .slice (some ⟨g, 0, none⟩) (n + 1) cap ∧ w'.ownsRow base 87 33 (.slice (some ⟨g, 0, none⟩) (n + 1) cap) (n + 1) (xs ++ partC leaf (.pointer none)) ∧ (v.ownBlock = some g ∨ w.heap.size ≤ g)) ∧ Kept v.ownBlock.toList X w')
    (fun u0 u1 u2 w' => u2 = .pointer (some ⟨t, 0, none⟩) ∧ (∃ g cap, u1 = .slice (some ⟨g, 0, none⟩) (n + 1) cap ∧ w'.ownsRow base 87 33 (.slice (some ⟨g, 0, none⟩) (n + 1) cap) (n + 1) (xs ++ partC leaf (.pointer none)) ∧ (v.ownBlock = some g ∨ w.heap.size ≤ g)) ∧ Kept v.ownBlock.toList X w')
    (fun u0 u1 u2 u3 w' => u3 = .pointer (some ⟨t, 2, none⟩) ∧ u2 = .pointer (some ⟨t, 0, none⟩) ∧ (∃ g cap, u1 = .slice (some ⟨g, 0, none⟩) (n + 1) cap ∧ w'.ownsRow base 87 33 (.slice (some ⟨g, 0, none⟩) (n + 1) cap) (n + 1) (xs ++ partC leaf (.pointer none)) ∧ (v.ownBlock = some g ∨ w.heap.size ≤ g)) ∧ Kept v.ownBlock.toList X w')
    (fun u0 u1 u2 u3 w' => (∃ g cap, u1 = .slice (some ⟨g, 0, none⟩) (n + 1) cap ∧ w'.ownsRow base 87 33 (.slice (some ⟨g, 0, none⟩) (n + 1) cap) (n + 1) (xs ++ partC leaf (.pointer none)) ∧ (v.ownBlock = some g ∨ w.heap.size ≤ g) ∧ w'.heap[t]? = some (.cells #[.int .i64 z, .int .u64 (N : Int), .slice (some ⟨g, 0, none⟩) (n + 1) cap] 83 (0, 0))) ∧ Kept (t :: v.ownBlock.toList) X w')
    (by simp only [Act.put, List.setIfInBounds_toArray, List.set_cons_zero, List.set_cons_succ]; rfl) (by exact Or.inl ⟨by rfl, fun W' hW' => by go_simp⟩)
    (by simp only [Act.put, List.setIfInBounds_toArray, List.set_cons_zero, List.set_cons_succ]; rfl) (by exact Or.inl ⟨by rfl, fun W' hW' => by go_simp⟩)
    (by simp only [Act.put, List.setIfInBounds_toArray, List.set_cons_zero, List.set_cons_succ]; rfl) (by exact Or.inl ⟨by rfl, fun W' hW' => by go_simp⟩)
    (by simp only [Act.put, List.setIfInBounds_toArray, List.set_cons_zero, List.set_cons_succ]; rfl) (by exact Or.inl ⟨by rfl, fun W' hW' => by go_simp⟩)
    (by simp only [Act.put, List.setIfInBounds_toArray, List.set_cons_zero, List.set_cons_succ]; rfl) (by exact Or.inl ⟨by rfl, fun W' hW' => by have h9 := hW'.cell cq (by intro hm; simp only [Option.mem_toList] at hm; have := hvb _ hm; omega); go_simp⟩)
    (by simp only [Act.put, List.setIfInBounds_toArray, List.set_cons_zero, List.set_cons_succ]; rfl) (by
      refine Or.inl ⟨by rfl, fun W' hW' => ?_⟩
      have h9 := run_loadVar_row (P := Tryd.prog) W' w.heap.size 23 23 (brow leaf) (0, 0) _ (hW'.heap (unhide HGX) (by intro hm; simp only [Option.mem_toList] at hm; have := hvb _ hm; omega)) Tryd.underlying23 rfl (by rw [hlb]; exact Tryd.size_dig)
      unfold execOp
      simp only [Instr.loadAt, Instr.sureAddr, Sem.run_bind, Sem.run_pure, Result.andThen_ok]
      change ((Sem.run Tryd.prog (loadVar 23 ⟨w.heap.size, 0, none⟩) W').andThen fun a w' => Result.ok (Next.value a) w') = _
      rw [h9]
      rfl)
    (by simp only [Act.put, List.setIfInBounds_toArray, List.set_cons_zero, List.set_cons_succ]; rfl) (by
      refine Or.inl ⟨by rfl, fun W' hW' => ?_⟩
      unfold execOp
      go_simp
      exact build_part leaf hl.1)
    (Kept.refl [] X).drew
    ⟨fun w' h => h.mono (by simp), fun u0 w' h => h.2.mono (by simp), fun u0 u1 w' h => h.2, fun u0 u1 u2 w' h => h.2.2, fun u0 u1 u2 u3 w' h => h.2.2.2⟩
    (by
      intro w' i K hK
      have hp33 := partC_len (k := .pointer none) hl.1
      have hb1 := hide (build_one leaf (.pointer none) hl.1)
      unfold Oper.wp execOp
      go_simp
      exact hK _ _ ⟨⟨_, rfl, (heap_alloc_new w' _).trans (by rw [← unhide hb1]; rfl)⟩, i.alloc _⟩)
    (by
      rintro u0 w' ⟨⟨H, rfl, hH⟩, i⟩ K hK
      obtain ⟨g, cap, w1, hrun, h3, h4, h5⟩ := pushK w' base v n xs leaf (.pointer none) H (i.owns (unhide HOX) (by simp)) hH hl.1 rfl (by omega) (by have := i.size; omega)
      exact wp_appendT rfl rfl rfl rfl hrun (hK _ _ ⟨⟨_, _, rfl, h3, h5.elim Or.inl (fun e => Or.inr (by have := i.size; omega))⟩, (i.mono (by simp)).grown h4 (by intro k hk; left; simp [hk])⟩))
    (by rintro u0 u1 w' ⟨⟨g, cap, rfl, h3, h8⟩, i⟩ K hK; unfold Oper.wp execOp; go_simp; exact hK _ _ ⟨rfl, ⟨_, _, rfl, h3, h8⟩, i⟩)
    (by rintro u0 u1 u2 w' ⟨rfl, ⟨g, cap, rfl, h3, h8⟩, i⟩ K hK; unfold Oper.wp execOp; go_simp; exact hK _ _ ⟨rfl, rfl, ⟨_, _, rfl, h3, h8⟩, i⟩)
    (by
      rintro u0 u1 u2 u3 w' ⟨rfl, rfl, ⟨g, cap, rfl, h3, h8⟩, i⟩ K hK
      have hq := i.heap (unhide HRX) (by intro hm; simp only [Option.mem_toList] at hm; have := hvb _ hm; omega)
      have cq9 := cell_of_row _ _ 2 _ _ _ hq
      have fz9 : w'.frozen? ⟨t, 2, none⟩ = false := by simp [World.frozen?, hq]
      have hset := heap_setCell_same w' t 2 _ 83 (.slice (some ⟨g, 0, none⟩) (n + 1) cap) hq
      have kS := (Kept.refl [t] w').setCell (p := ⟨t, 2, none⟩) (Or.inl (by simp)) (.slice (some ⟨g, 0, none⟩) (n + 1) cap)
      unfold Oper.wp execOp
      go_simp
      exact hK _ ⟨⟨_, _, rfl, kS.owns h3 (by intro b hb hm; simp [Value.ownBlock] at hb hm; subst hb; exact owns_ne h3 hq (by decide) hm.symm), h8, hset⟩, (i.mono (by simp; intro x hx; right; exact hx)).setCell (Or.inl (by simp)) _⟩)
    ?_
  rintro u0 u1 u2 u3 Y ⟨⟨g, cap, rfl, hO, hlie, hq⟩, kY⟩
  simp only [Act.put, List.setIfInBounds_toArray, List.set_cons_zero, List.set_cons_succ]
  have HO := hide hO
  have HLie := hide hlie
  have HQ := hide hq
  have HKY := hide kY
  have d1 := cell_of_row _ _ 1 _ _ _ hq
  have y1 := frozen_of_row _ _ 1 _ _ hq
  simp at d1
  clear hO hq kY cq hlb HGX HRX HOX hlie
  have hN' : (N : Int) + 1 < 18446744073709551616 := by omega
  have HQ2 := hide (heap_setCell_same _ _ 1 _ _ (.int .u64 ((N : Int) + 1)) (unhide HQ))
  have HK2 := hide ((unhide HKY).setCell (p := ⟨t, 1, none⟩) (Or.inl (by simp)) (.int .u64 ((N : Int) + 1)))
  have HOY := hide ((((Kept.refl [t] Y).setCell (p := ⟨t, 1, none⟩) (Or.inl (by simp)) (.int .u64 ((N : Int) + 1))).owns (unhide HO) (by intro b hb hm; simp [Value.ownBlock] at hb hm; subst hb; exact owns_ne (unhide HO) (unhide HQ) (by decide) hm.symm)))
  go_wp2_with fail
  obtain ⟨Z, hZ⟩ : ∃ Z, Y.setCell ⟨t, 1, none⟩ (.int .u64 ((N : Int) + 1)) = Z := ⟨_, rfl⟩
  rw [hZ] at HQ2 HK2 HOY ⊢
  clear hZ
  have e1 : (N : Int) + 1 = ((N + 1 : Nat) : Int) := by omega
  rw [e1] at HQ2 ⊢
  clear e1
  have HKZ := hide (((unhide HKX).mono (by simp)).trans (unhide HK2) (by intro x hx; left; exact hx) : Kept (t :: v.ownBlock.toList) w Z)
  obtain ⟨m, hcm⟩ := ctz_form (M := N + 1) (by omega) (by omega)
  have HR0 := hide (unhide HST Z g cap (unhide HKZ) (unhide HV0) (unhide HT0) (by simpa using unhide HQ2) (unhide HOY) (unhide HLie))
  have HFI := hide (fun front top g1 cap1 wr (h : PuRel z t (N + 1) base v ps leaf w (Lib.ctz 64 (N + 1)) front top g1 cap1 wr) => h.fin hcm)
  refine (tz64_any (N + 1) Z (by omega) (by omega) (unhide H6w Z ((unhide HKX).mono (by simp) |>.trans (unhide HK2) (by intro x hx; left; exact hx)))).mono ?_
  rintro e w3 ⟨rfl, rfl⟩
  clear hN' d1 y1 HQ HKY HO
  clear HST HOY HQ2 HLie HV0 HT0
  have hc64 := (Lib.lowest_bit 64 (N + 1) (by omega) (by omega)).2
  generalize Lib.ctz 64 (N + 1) = c at hcm HFI hc64 ⊢
  have HCM := hide hcm
  clear hcm
  have hMb : N + 1 ≤ 1000000001 := by omega
  generalize N + 1 = M at HCM HR0 HFI hMb ⊢
  go_wp2_with fail
  go_loopw [30] (fun t30 wr => ∃ (i : Nat) (front : List Pk) (top : Pk) (g1 cap1 : Nat), i ≤ c ∧ t30 = .int .i64 i ∧ Hid (PuRel z t M base v ps leaf w i front top g1 cap1 wr)) (fun t _ => c - (intOf t).toNat)
  case atStart => exact ⟨0, _, _, _, _, Nat.zero_le _, rfl, HR0⟩
  case round =>
    obtain ⟨i, front, top, g1, cap1, hi, rfl, HRL⟩ := hrel
    by_cases hlt : i < c
    · have hlt' : (i : Int) < c := by omega
      obtain ⟨front2, pa, hfr, HF0⟩ := (unhide HRL).facts hw (unhide HCM) hlt
      subst hfr
      have HF := hide HF0
      have cq := HF0.cq
      have cz := HF0.cz
      have htg := HF0.tg
      have hjM := HF0.jM
      have hjc0 := HF0.jc
      have hg1w := HF0.gw
      have hbg1 := HF0.bw
      have Hpa := hide HF0.ra
      have Htop := hide HF0.rt
      have HDGpa := hide HF0.la
      have HDGtop := hide HF0.lt
      have HOpa := hide HF0.oa
      have HOtop := hide HF0.ot
      clear HF0
      obtain ⟨j, hj⟩ : ∃ j, front2.length = j := ⟨_, rfl⟩
      rw [hj] at cq Hpa Htop hjM hjc0
      have hcap : (j : Int) + 2 ≤ 1000000001 := by omega
      have ix0 : ¬ (j : Int) + 1 < 0 := by omega
      have ix1 : ¬ (j : Int) + 2 ≤ j := by omega
      have ix2 : ¬ (j : Int) + 2 ≤ (j : Int) + 1 := by omega
      have wj : IntKind.i64.wrap ((j : Int) + 1) = (j : Int) + 1 := by simp [IntKind.wrap, IntKind.signed, IntKind.bits]; omega
      go_wp2_with fail
      refine wp_pu19 (by kernel_rfl) (by kernel_rfl) (by kernel_rfl) (by kernel_rfl) (by kernel_rfl) (by kernel_rfl) (by kernel_rfl) (by kernel_rfl) (by kernel_rfl) (by kernel_rfl) (by kernel_rfl) (by kernel_rfl) (by kernel_rfl) (by kernel_rfl) (by kernel_rfl) (by kernel_rfl) (by kernel_rfl) (by kernel_rfl) (by kernel_rfl) (by kernel_rfl) (by kernel_rfl) (by kernel_rfl) (by kernel_rfl) (by kernel_rfl) (by kernel_rfl) (by kernel_rfl) (by kernel_rfl) (by kernel_rfl) (by kernel_rfl) (by kernel_rfl) (by kernel_rfl) (by kernel_rfl) (by kernel_rfl) (by kernel_rfl) (by kernel_rfl) (by kernel_rfl) (by kernel_rfl) (by kernel_rfl) rfl rfl rfl rfl (by simp)
        (Value.pointer (some ⟨t, 0, none⟩)) (Value.pointer (some ⟨t, 0, none⟩)) (Value.pointer (some ⟨t, 2, none⟩)) (Value.slice (some ⟨g1, 0, none⟩) (j + 2) cap1) (.int .i64 (j : Int)) (.pointer (some ⟨g1, j * 33, none⟩)) (Value.agg (partC pa.s pa.k).toArray) (Value.pointer (some ⟨t, 0, none⟩)) (Value.pointer (some ⟨t, 0, none⟩)) (Value.pointer (some ⟨t, 2, none⟩)) (Value.slice (some ⟨g1, 0, none⟩) (j + 2) cap1) (.int .i64 (j : Int)) (.int .i64 ((j : Int) + 1)) (.pointer (some ⟨g1, (j + 1) * 33, none⟩)) (Value.agg (partC top.s top.k).toArray) _ _ _ _ _ _ _ _ _ _ _ _ _ _ _
        (fun w' => Kept [] wr w')
        (fun w' => Kept [] wr w')
        (fun u w' => ∃ gl, u = .pointer (some ⟨gl, 0, none⟩) ∧ wr.heap.size ≤ gl ∧ w'.heap[gl]? = some (.cells zP 87 (0, 0)) ∧ Kept [] wr w')
        (fun u w' => ∃ gl, u = .pointer (some ⟨gl, 0, none⟩) ∧ wr.heap.size ≤ gl ∧ w'.heap[gl]? = some (.cells zP 87 (0, 0)) ∧ Kept [] wr w')
        (fun u u' w' => ∃ gl gr, u = .pointer (some ⟨gl, 0, none⟩) ∧ u' = .pointer (some ⟨gr, 0, none⟩) ∧ gl ≠ gr ∧ wr.heap.size ≤ gl ∧ wr.heap.size ≤ gr ∧ w'.heap[gl]? = some (.cells zP 87 (0, 0)) ∧ w'.heap[gr]? = some (.cells zP 87 (0, 0)) ∧ Kept [] wr w')
        (fun u u' _ w' => ∃ gl gr, u = .pointer (some ⟨gl, 0, none⟩) ∧ u' = .pointer (some ⟨gr, 0, none⟩) ∧ gl ≠ gr ∧ wr.heap.size ≤ gl ∧ wr.heap.size ≤ gr ∧ w'.heap[gl]? = some (.cells (partC pa.s pa.k).toArray 87 (0, 0)) ∧ w'.heap[gr]? = some (.cells zP 87 (0, 0)) ∧ Kept [] wr w')
        (fun u u' _ _ w' => ∃ gl gr, u = .pointer (some ⟨gl, 0, none⟩) ∧ u' = .pointer (some ⟨gr, 0, none⟩) ∧ gl ≠ gr ∧ wr.heap.size ≤ gl ∧ wr.heap.size ≤ gr ∧ w'.heap[gl]? = some (.cells (partC pa.s pa.k).toArray 87 (0, 0)) ∧ w'.heap[gr]? = some (.cells (partC top.s top.k).toArray 87 (0, 0)) ∧ Kept [] wr w')
        (by simp only [Act.put, List.setIfInBounds_toArray, List.set_cons_zero, List.set_cons_succ]; rfl) (by exact Or.inl ⟨by rfl, fun W' hW' => by go_simp⟩)
        (by simp only [Act.put, List.setIfInBounds_toArray, List.set_cons_zero, List.set_cons_succ]; rfl) (by exact Or.inl ⟨by rfl, fun W' hW' => by go_simp⟩)
        (by simp only [Act.put, List.setIfInBounds_toArray, List.set_cons_zero, List.set_cons_succ]; rfl) (by exact Or.inl ⟨by rfl, fun W' hW' => by go_simp⟩)
        (by simp only [Act.put, List.setIfInBounds_toArray, List.set_cons_zero, List.set_cons_succ]; rfl) (by exact Or.inl ⟨by rfl, fun W' hW' => by have h9 := hW'.cell cq (by simp); go_simp⟩)
        (by simp only [Act.put, List.setIfInBounds_toArray, List.set_cons_zero, List.set_cons_succ]; rfl) (by exact Or.inl ⟨by rfl, fun W' hW' => by go_simp⟩)
        (by simp only [Act.put, List.setIfInBounds_toArray, List.set_cons_zero, List.set_cons_succ]; rfl) (by exact Or.inl ⟨by rfl, fun W' hW' => by go_simp⟩)
        (by simp only [Act.put, List.setIfInBounds_toArray, List.set_cons_zero, List.set_cons_succ]; rfl) (by
          refine Or.inl ⟨by rfl, fun W' hW' => ?_⟩
          have h9 := run_loadVar_mid (P := Tryd.prog) W' g1 (j * 33) 87 (partC pa.s pa.k) _ (fun k u hk => hW'.cell (unhide Hpa k u hk) (by simp)) Tryd.underlying87 rfl (by rw [partC_len (unhide HDGpa)]; exact size_part)
          unfold execOp
          simp only [Instr.loadAt, Instr.sureAddr, Sem.run_bind, Sem.run_pure, Result.andThen_ok]
          change ((Sem.run Tryd.prog (loadVar 87 ⟨g1, j * 33, none⟩) W').andThen fun a w' => Result.ok (Next.value a) w') = _
          rw [h9]
          rfl)
        (by simp only [Act.put, List.setIfInBounds_toArray, List.set_cons_zero, List.set_cons_succ]; rfl) (by exact Or.inl ⟨by rfl, fun W' hW' => by go_simp⟩)
        (by simp only [Act.put, List.setIfInBounds_toArray, List.set_cons_zero, List.set_cons_succ]; rfl) (by exact Or.inl ⟨by rfl, fun W' hW' => by go_simp⟩)
        (by simp only [Act.put, List.setIfInBounds_toArray, List.set_cons_zero, List.set_cons_succ]; rfl) (by exact Or.inl ⟨by rfl, fun W' hW' => by go_simp⟩)
        (by simp only [Act.put, List.setIfInBounds_toArray, List.set_cons_zero, List.set_cons_succ]; rfl) (by exact Or.inl ⟨by rfl, fun W' hW' => by have h9 := hW'.cell cq (by simp); go_simp⟩)
        (by simp only [Act.put, List.setIfInBounds_toArray, List.set_cons_zero, List.set_cons_succ]; rfl) (by exact Or.inl ⟨by rfl, fun W' hW' => by go_simp⟩)
        (by simp only [Act.put, List.setIfInBounds_toArray, List.set_cons_zero, List.set_cons_succ]; rfl) (by exact Or.inl ⟨by rfl, fun W' hW' => by go_simp⟩)
        (by simp only [Act.put, List.setIfInBounds_toArray, List.set_cons_zero, List.set_cons_succ]; rfl) (by exact Or.inl ⟨by rfl, fun W' hW' => by go_simp⟩)
        (by simp only [Act.put, List.setIfInBounds_toArray, List.set_cons_zero, List.set_cons_succ]; rfl) (by
          refine Or.inl ⟨by rfl, fun W' hW' => ?_⟩
          have h9 := run_loadVar_mid (P := Tryd.prog) W' g1 ((j + 1) * 33) 87 (partC top.s top.k) _ (fun k u hk => hW'.cell (unhide Htop k u hk) (by simp)) Tryd.underlying87 rfl (by rw [partC_len (unhide HDGtop)]; exact size_part)
          unfold execOp
          simp only [Instr.loadAt, Instr.sureAddr, Sem.run_bind, Sem.run_pure, Result.andThen_ok]
          change ((Sem.run Tryd.prog (loadVar 87 ⟨g1, (j + 1) * 33, none⟩) W').andThen fun a w' => Result.ok (Next.value a) w') = _
          rw [h9]
          rfl)
        (Kept.refl [] wr).drew
        ⟨fun w' h => h, fun u w' ⟨gl, _, _, _, k⟩ => k, fun u w' ⟨gl, _, _, _, k⟩ => k, fun u u' w' ⟨gl, gr, _, _, _, _, _, _, _, k⟩ => k, fun u u' _ w' ⟨gl, gr, _, _, _, _, _, _, _, k⟩ => k, fun u u' _ _ w' ⟨gl, gr, _, _, _, _, _, _, _, k⟩ => k⟩
        (by intro w' i K hK; unfold Oper.wp execOp; go_simp; exact hK _ _ ⟨_, rfl, i.size, heap_alloc_new w' (.cells zP 87), i.alloc _⟩)
        (by intro w' i K hK; unfold Oper.wp execOp; go_simp; exact hK _ _ ⟨_, rfl, i.size, heap_alloc_new w' (.cells zP 87), i.alloc _⟩)
        (by rintro u w' ⟨gl, rfl, h1, h2, i⟩ K hK; unfold Oper.wp execOp; go_simp; exact hK _ _ ⟨gl, _, rfl, rfl, by have := lt_of_block h2; omega, h1, i.size, ((Kept.refl [] w').alloc (.cells zP 87)).heap h2 (by simp), heap_alloc_new w' (.cells zP 87), i.alloc _⟩)
        (by rintro u w' ⟨gr, rfl, h1, h2, i⟩ K hK; unfold Oper.wp execOp; go_simp; exact hK _ _ ⟨_, gr, rfl, rfl, by have := lt_of_block h2; omega, i.size, h1, heap_alloc_new w' (.cells zP 87), ((Kept.refl [] w').alloc (.cells zP 87)).heap h2 (by simp), i.alloc _⟩)
        (by
          rintro u u' w' ⟨gl, gr, rfl, rfl, hne, h1, h2, h3, h4, i⟩ K hK
          exact wp_store_row 87 _ _ rfl gl (partC pa.s pa.k).toArray rfl rfl _ zP h3 (by rw [List.size_toArray, partC_len (unhide HDGpa)]; exact size_part) (by rw [zP_size, List.size_toArray, partC_len (unhide HDGpa)]) (unhide HOpa) (hK _ _ ⟨gl, gr, rfl, rfl, hne, h1, h2, setRow_heap _ _ _ _ _ _ h3, (setRow_other w' gl gr _ (fun e => hne e.symm)).trans h4, i.setRow (Or.inr h1) _⟩))
        (by
          rintro u u' u17 w' ⟨gl, gr, rfl, rfl, hne, h1, h2, h3, h4, i⟩ K hK
          exact wp_store_row 87 _ _ rfl gr (partC top.s top.k).toArray rfl rfl _ zP h4 (by rw [List.size_toArray, partC_len (unhide HDGtop)]; exact size_part) (by rw [zP_size, List.size_toArray, partC_len (unhide HDGtop)]) (unhide HOtop) (hK _ _ ⟨gl, gr, rfl, rfl, hne, h1, h2, (setRow_other w' gr gl _ hne).trans h3, setRow_heap _ _ _ _ _ _ h4, i.setRow (Or.inr h2) _⟩))
        ?_
      rintro u15 u16 u17 u18 W6 ⟨gl, gr, rfl, rfl, hne, hgl, hgr, hL6, hR6, k6⟩
      simp only [Act.put, List.setIfInBounds_toArray, List.set_cons_zero, List.set_cons_succ]
      go_wp2_with fail
      have cq6 : W6.cell? ⟨t, 2, none⟩ = some (Value.slice (some ⟨g1, 0, none⟩) (j + 2) cap1) := k6.cell cq (by simp)
      have cz6 : W6.cell? ⟨t, 0, none⟩ = some (.int .i64 z) := k6.cell cz (by simp)
      have hgl1 : ¬ gl = g1 := by omega
      have hgr1 : ¬ gr = g1 := by omega
      have hg1W : g1 < W6.heap.size := Nat.lt_of_lt_of_le hg1w k6.size
      have HLp := hide (range_rowV hL6 : W6.rangeAt gl 0 (partC pa.s pa.k))
      have HRp := hide (range_rowV hR6 : W6.rangeAt gr 0 (partC top.s top.k))
      have HLs := hide (range_part (unhide HLp) : W6.rangeAt gl 0 (pa.s.map u8))
      have HRs := hide (range_part (unhide HRp) : W6.rangeAt gr 0 (top.s.map u8))
      have HT6 := hide (k6.heap (unhide HRL).row (by simp))
      have HO6 := hide (k6.owns (owns_front (unhide HRL).own hj (unhide HF).la (unhide HF).lt (fun p hp => ((unhide HRL).pa p (by simp [hp])).dg.1)) (by simp))
      simp only [List.length_append, List.length_cons, List.length_nil, Nat.zero_add, hj, Nat.add_assoc, Nat.reduceAdd] at HT6
      have hbW : base ≤ W6.heap.size := by omega
      have HK6 := hide k6
      have HOV := hide (fun (w' : World) (k : Kept [] W6 w') => overT_any z pa.s top.s w' hw (unhide HF).da (unhide HF).dt (unhide HF).fa (unhide HF).ft (unhide HTw w' (((unhide HRL).kept.trans k6 (by simp)).trans k (by simp))))
      clear k6 hL6 hR6
      have hjc : (j : Int) ≤ cap1 := by omega
      have hj0 : ¬ (j : Int) < 0 := by omega
      refine wp_pu26 (by kernel_rfl) (by kernel_rfl) (by kernel_rfl) (by kernel_rfl) (by kernel_rfl) (by kernel_rfl) (by kernel_rfl) (by kernel_rfl) (by kernel_rfl) (by kernel_rfl) (by kernel_rfl) (by kernel_rfl) (by kernel_rfl) (by kernel_rfl) (by kernel_rfl) (by kernel_rfl) (by kernel_rfl) (by kernel_rfl) (by kernel_rfl) (by kernel_rfl) (by kernel_rfl) (by kernel_rfl) (by kernel_rfl) (by kernel_rfl) (by kernel_rfl) (by kernel_rfl) (by kernel_rfl) (by kernel_rfl) (by kernel_rfl) (by kernel_rfl) (by kernel_rfl) (by kernel_rfl) (by kernel_rfl) (by kernel_rfl) (by kernel_rfl) (by kernel_rfl) (by kernel_rfl) (by kernel_rfl) (by kernel_rfl) (by kernel_rfl) (by kernel_rfl) (by kernel_rfl) (by kernel_rfl) (by kernel_rfl) (by kernel_rfl) (by kernel_rfl) (by kernel_rfl) (by kernel_rfl) (by kernel_rfl) (by kernel_rfl) (by kernel_rfl) (by kernel_rfl) (by kernel_rfl) (by kernel_rfl) (by kernel_rfl) (by kernel_rfl) (by kernel_rfl) (by kernel_rfl) (by kernel_rfl) rfl rfl (by simp) (by kernel_rfl) rfl (by kernel_rfl) rfl (by kernel_rfl) rfl (by kernel_rfl) rfl (by kernel_rfl) rfl (by kernel_rfl) rfl (by kernel_rfl)
        (Value.pointer (some ⟨t, 0, none⟩)) (Value.pointer (some ⟨t, 0, none⟩)) (Value.pointer (some ⟨t, 0, none⟩)) (Value.pointer (some ⟨t, 2, none⟩)) (Value.slice (some ⟨g1, 0, none⟩) (j + 2) cap1) (.int .i64 (j : Int)) (.slice (some ⟨g1, 0, none⟩) j cap1) (Value.pointer (some ⟨t, 0, none⟩)) (Value.pointer (some ⟨t, 0, none⟩)) (.pointer (some ⟨t, 0, none⟩)) (.int .i64 z) (.pointer (some ⟨gl, 0, none⟩)) (.agg (brow pa.s)) (.pointer (some ⟨gr, 0, none⟩)) (.agg (brow top.s)) (.agg (partC pa.s pa.k).toArray) (.agg (partC top.s top.k).toArray) (.agg (partC pa.s pa.k ++ partC top.s top.k).toArray) _ _ _ _ _ _ _ _ _ _ _ _ _ _ _ _ _ _
        (fun w' => Kept [g1] W6 w')
        (fun w' => Kept [] W6 w')
        (fun u0 w' => u0 = .agg (brow (nodT z pa.s top.s)) ∧ Kept [] W6 w')
        (fun u1 w' => (∃ gk, u1 = .pointer (some ⟨gk, 0, none⟩) ∧ W6.heap.size ≤ gk ∧ w'.heap[gk]? = some (.cells (partC pa.s pa.k ++ partC top.s top.k).toArray 109 (0, 0))) ∧ Kept [] W6 w')
        (fun u0 u1 w' => u0 = .agg (brow (nodT z pa.s top.s)) ∧ (∃ gk, u1 = .pointer (some ⟨gk, 0, none⟩) ∧ W6.heap.size ≤ gk ∧ w'.heap[gk]? = some (.cells (partC pa.s pa.k ++ partC top.s top.k).toArray 109 (0, 0))) ∧ Kept [] W6 w')
        (fun u0 u1 u2 w' => (∃ gk, u1 = .pointer (some ⟨gk, 0, none⟩) ∧ W6.heap.size ≤ gk ∧ w'.heap[gk]? = some (.cells (partC pa.s pa.k ++ partC top.s top.k).toArray 109 (0, 0)) ∧ u2 = .agg (partC (nodT z pa.s top.s) (.pointer (some ⟨gk, 0, none⟩))).toArray) ∧ Kept [] W6 w')
        (fun u0 u1 u2 u3 w' => (∃ gk, u1 = .pointer (some ⟨gk, 0, none⟩) ∧ W6.heap.size ≤ gk ∧ w'.heap[gk]? = some (.cells (partC pa.s pa.k ++ partC top.s top.k).toArray 109 (0, 0)) ∧ ∃ H, u3 = .slice (some ⟨H, 0, none⟩) 1 1 ∧ w'.heap[H]? = some (.cells (partC (nodT z pa.s top.s) (.pointer (some ⟨gk, 0, none⟩))).toArray 87 (0, 0))) ∧ Kept [] W6 w')
        (fun u0 u1 u2 u3 u4 w' => (∃ gk, u1 = .pointer (some ⟨gk, 0, none⟩) ∧ W6.heap.size ≤ gk ∧ w'.heap[gk]? = some (.cells (partC pa.s pa.k ++ partC top.s top.k).toArray 109 (0, 0)) ∧ (∃ g2 cap2, u4 = .slice (some ⟨g2, 0, none⟩) (j + 1) cap2 ∧ w'.ownsRow base 87 33 (.slice (some ⟨g2, 0, none⟩) (j + 1) cap2) (j + 1) (cellsK front2 ++ partC (nodT z pa.s top.s) (.pointer (some ⟨gk, 0, none⟩))) ∧ (g2 = g1 ∨ W6.heap.size ≤ g2))) ∧ Kept [g1] W6 w')
        (fun u0 u1 u2 u3 u4 u5 w' => u5 = (Value.pointer (some ⟨t, 0, none⟩)) ∧ (∃ gk, u1 = .pointer (some ⟨gk, 0, none⟩) ∧ W6.heap.size ≤ gk ∧ w'.heap[gk]? = some (.cells (partC pa.s pa.k ++ partC top.s top.k).toArray 109 (0, 0)) ∧ (∃ g2 cap2, u4 = .slice (some ⟨g2, 0, none⟩) (j + 1) cap2 ∧ w'.ownsRow base 87 33 (.slice (some ⟨g2, 0, none⟩) (j + 1) cap2) (j + 1) (cellsK front2 ++ partC (nodT z pa.s top.s) (.pointer (some ⟨gk, 0, none⟩))) ∧ (g2 = g1 ∨ W6.heap.size ≤ g2))) ∧ Kept [g1] W6 w')
        (fun u0 u1 u2 u3 u4 u5 u6 w' => u6 = (Value.pointer (some ⟨t, 2, none⟩)) ∧ u5 = (Value.pointer (some ⟨t, 0, none⟩)) ∧ (∃ gk, u1 = .pointer (some ⟨gk, 0, none⟩) ∧ W6.heap.size ≤ gk ∧ w'.heap[gk]? = some (.cells (partC pa.s pa.k ++ partC top.s top.k).toArray 109 (0, 0)) ∧ (∃ g2 cap2, u4 = .slice (some ⟨g2, 0, none⟩) (j + 1) cap2 ∧ w'.ownsRow base 87 33 (.slice (some ⟨g2, 0, none⟩) (j + 1) cap2) (j + 1) (cellsK front2 ++ partC (nodT z pa.s top.s) (.pointer (some ⟨gk, 0, none⟩))) ∧ (g2 = g1 ∨ W6.heap.size ≤ g2))) ∧ Kept [g1] W6 w')
        (fun u0 u1 u2 u3 u4 u5 u6 w' => (∃ gk, u1 = .pointer (some ⟨gk, 0, none⟩) ∧ W6.heap.size ≤ gk ∧ w'.heap[gk]? = some (.cells (partC pa.s pa.k ++ partC top.s top.k).toArray 109 (0, 0)) ∧ (∃ g2 cap2, u4 = .slice (some ⟨g2, 0, none⟩) (j + 1) cap2 ∧ w'.ownsRow base 87 33 (.slice (some ⟨g2, 0, none⟩) (j + 1) cap2) (j + 1) (cellsK front2 ++ partC (nodT z pa.s top.s) (.pointer (some ⟨gk, 0, none⟩))) ∧ (g2 = g1 ∨ W6.heap.size ≤ g2) ∧ w'.heap[t]? = some (.cells #[.int .i64 z, .int .u64 (M : Int), .slice (some ⟨g2, 0, none⟩) (j + 1) cap2] 83 (0, 0)))) ∧ Kept [t, g1] W6 w')
        (by simp only [Act.put, List.setIfInBounds_toArray, List.set_cons_zero, List.set_cons_succ]; rfl) (by exact Or.inl ⟨by rfl, fun W' hW' => by go_simp⟩)
        (by simp only [Act.put, List.setIfInBounds_toArray, List.set_cons_zero, List.set_cons_succ]; rfl) (by exact Or.inl ⟨by rfl, fun W' hW' => by go_simp⟩)
        (by simp only [Act.put, List.setIfInBounds_toArray, List.set_cons_zero, List.set_cons_succ]; rfl) (by exact Or.inl ⟨by rfl, fun W' hW' => by go_simp⟩)
        (by simp only [Act.put, List.setIfInBounds_toArray, List.set_cons_zero, List.set_cons_succ]; rfl) (by exact Or.inl ⟨by rfl, fun W' hW' => by go_simp⟩)
        (by simp only [Act.put, List.setIfInBounds_toArray, List.set_cons_zero, List.set_cons_succ]; rfl) (by exact Or.inl ⟨by rfl, fun W' hW' => by have h9 := hW'.cell cq6 (by simpa using htg); go_simp⟩)
        (by simp only [Act.put, List.setIfInBounds_toArray, List.set_cons_zero, List.set_cons_succ]; rfl) (by exact Or.inl ⟨by rfl, fun W' hW' => by go_simp⟩)
        (by simp only [Act.put, List.setIfInBounds_toArray, List.set_cons_zero, List.set_cons_succ]; rfl) (by exact Or.inl ⟨by rfl, fun W' hW' => by go_simp⟩)
        (by simp only [Act.put, List.setIfInBounds_toArray, List.set_cons_zero, List.set_cons_succ]; rfl) (by exact Or.inl ⟨by rfl, fun W' hW' => by go_simp⟩)
        (by simp only [Act.put, List.setIfInBounds_toArray, List.set_cons_zero, List.set_cons_succ]; rfl) (by exact Or.inl ⟨by rfl, fun W' hW' => by go_simp⟩)
        (by simp only [Act.put, List.setIfInBounds_toArray, List.set_cons_zero, List.set_cons_succ]; rfl) (by exact Or.inl ⟨by rfl, fun W' hW' => by go_simp⟩)
        (by simp only [Act.put, List.setIfInBounds_toArray, List.set_cons_zero, List.set_cons_succ]; rfl) (by exact Or.inl ⟨by rfl, fun W' hW' => by have h9 := hW'.cell cz6 (by simpa using htg); go_simp⟩)
        (by simp only [Act.put, List.setIfInBounds_toArray, List.set_cons_zero, List.set_cons_succ]; rfl) (by exact Or.inl ⟨by rfl, fun W' hW' => by go_simp⟩)
        (by simp only [Act.put, List.setIfInBounds_toArray, List.set_cons_zero, List.set_cons_succ]; rfl) (by
          refine Or.inl ⟨by rfl, fun W' hW' => ?_⟩
          have h9 := run_loadVar_mid (P := Tryd.prog) W' gl 0 23 (pa.s.map u8) _ (fun k u hk => hW'.cell (unhide HLs k u hk) (by simpa using hgl1)) Tryd.underlying23 rfl (by rw [List.length_map, unhide HDGpa]; exact Tryd.size_dig)
          unfold execOp
          simp only [Instr.loadAt, Instr.sureAddr, Sem.run_bind, Sem.run_pure, Result.andThen_ok]
          change ((Sem.run Tryd.prog (loadVar 23 ⟨gl, 0, none⟩) W').andThen fun a w' => Result.ok (Next.value a) w') = _
          rw [h9]
          rfl)
        (by simp only [Act.put, List.setIfInBounds_toArray, List.set_cons_zero, List.set_cons_succ]; rfl) (by exact Or.inl ⟨by rfl, fun W' hW' => by go_simp⟩)
        (by simp only [Act.put, List.setIfInBounds_toArray, List.set_cons_zero, List.set_cons_succ]; rfl) (by
          refine Or.inl ⟨by rfl, fun W' hW' => ?_⟩
          have h9 := run_loadVar_mid (P := Tryd.prog) W' gr 0 23 (top.s.map u8) _ (fun k u hk => hW'.cell (unhide HRs k u hk) (by simpa using hgr1)) Tryd.underlying23 rfl (by rw [List.length_map, unhide HDGtop]; exact Tryd.size_dig)
          unfold execOp
          simp only [Instr.loadAt, Instr.sureAddr, Sem.run_bind, Sem.run_pure, Result.andThen_ok]
          change ((Sem.run Tryd.prog (loadVar 23 ⟨gr, 0, none⟩) W').andThen fun a w' => Result.ok (Next.value a) w') = _
          rw [h9]
          rfl)
        (by simp only [Act.put, List.setIfInBounds_toArray, List.set_cons_zero, List.set_cons_succ]; rfl) (by
          refine Or.inl ⟨by rfl, fun W' hW' => ?_⟩
          have h9 := run_loadVar_mid (P := Tryd.prog) W' gl 0 87 (partC pa.s pa.k) _ (fun k u hk => hW'.cell (unhide HLp k u hk) (by simpa using hgl1)) Tryd.underlying87 rfl (by rw [partC_len (unhide HDGpa)]; exact size_part)
          unfold execOp
          simp only [Instr.loadAt, Instr.sureAddr, Sem.run_bind, Sem.run_pure, Result.andThen_ok]
          change ((Sem.run Tryd.prog (loadVar 87 ⟨gl, 0, none⟩) W').andThen fun a w' => Result.ok (Next.value a) w') = _
          rw [h9]
          rfl)
        (by simp only [Act.put, List.setIfInBounds_toArray, List.set_cons_zero, List.set_cons_succ]; rfl) (by
          refine Or.inl ⟨by rfl, fun W' hW' => ?_⟩
          have h9 := run_loadVar_mid (P := Tryd.prog) W' gr 0 87 (partC top.s top.k) _ (fun k u hk => hW'.cell (unhide HRp k u hk) (by simpa using hgr1)) Tryd.underlying87 rfl (by rw [partC_len (unhide HDGtop)]; exact size_part)
          unfold execOp
          simp only [Instr.loadAt, Instr.sureAddr, Sem.run_bind, Sem.run_pure, Result.andThen_ok]
          change ((Sem.run Tryd.prog (loadVar 87 ⟨gr, 0, none⟩) W').andThen fun a w' => Result.ok (Next.value a) w') = _
          rw [h9]
          rfl)
        (by simp only [Act.put, List.setIfInBounds_toArray, List.set_cons_zero, List.set_cons_succ]; rfl) (by
          refine Or.inl ⟨by rfl, fun W' hW' => ?_⟩
          have l1 := partC_len (k := pa.k) (unhide HDGpa)
          have l2 := partC_len (k := top.k) (unhide HDGtop)
          have hf := pair_fold (partC pa.s pa.k) (partC top.s top.k) l1 l2
          have hz : ¬ (List.foldl (fun cs x => cs.setIfInBounds x.snd x.fst) Tryd.zeroCells109 (partC pa.s pa.k).zipIdx).size < 66 := by rw [fold_size, z87_size]; omega
          unfold execOp
          go_simp)
        (Kept.refl [] W6).drew
        ⟨fun w' h => h.mono (by simp), fun u0 w' h => h.2.mono (by simp), fun u1 w' h => h.2.mono (by simp), fun u0 u1 w' h => h.2.2.mono (by simp), fun u0 u1 u2 w' h => h.2.mono (by simp), fun u0 u1 u2 u3 w' h => h.2.mono (by simp), fun u0 u1 u2 u3 u4 w' h => h.2, fun u0 u1 u2 u3 u4 u5 w' h => h.2.2, fun u0 u1 u2 u3 u4 u5 u6 w' h => h.2.2.2⟩
        (by intro w' i K hK; exact wp_callN rfl Tryd.call63 [.int .i64 z, .agg (brow pa.s), .agg (brow top.s)] rfl (unhide HOV w' i) (fun e w2 h => ⟨_, h.1, hK _ _ ⟨rfl, i.trans h.2 (by simp)⟩⟩))
        (by intro w' i K hK; unfold Oper.wp execOp; go_simp; exact hK _ _ ⟨⟨_, rfl, i.size, heap_alloc_new _ _⟩, i.alloc _⟩)
        (by rintro u0 w' ⟨rfl, i⟩ K hK; unfold Oper.wp execOp; go_simp; exact hK _ _ ⟨rfl, ⟨_, rfl, i.size, heap_alloc_new _ _⟩, i.alloc _⟩)
        (by rintro u1 w' ⟨⟨gk, rfl, h1, h2⟩, i⟩ K hK; exact wp_callN rfl Tryd.call63 [.int .i64 z, .agg (brow pa.s), .agg (brow top.s)] rfl (unhide HOV w' i) (fun e w2 h => ⟨_, h.1, hK _ _ ⟨rfl, ⟨gk, rfl, h1, h.2.heap h2 (by simp)⟩, i.trans h.2 (by simp)⟩⟩))
        (by
          intro u0 u1 w' hh K hK
          simp only [Act.put, List.setIfInBounds_toArray, List.set_cons_zero, List.set_cons_succ] at hK ⊢
          obtain ⟨rfl, ⟨gk, rfl, h1, h2⟩, i⟩ := hh
          exact wp_build_part _ _ rfl (nodT z pa.s top.s) (.pointer (some ⟨gk, 0, none⟩)) (nodS_dg z pa.s top.s).1 rfl rfl rfl (hK _ _ ⟨⟨gk, rfl, h1, h2, rfl⟩, i⟩))
        (by
          intro u0 u1 u2 w' hh K hK
          simp only [Act.put, List.setIfInBounds_toArray, List.set_cons_zero, List.set_cons_succ] at hK ⊢
          obtain ⟨⟨gk, rfl, h1, h2, rfl⟩, i⟩ := hh
          have hnl : (nodT z pa.s top.s).length = 32 := (nodS_dg z pa.s top.s).1
          have hp33 := partC_len (k := .pointer (some ⟨gk, 0, none⟩)) hnl
          have hb1 := hide (build_one (nodT z pa.s top.s) (.pointer (some ⟨gk, 0, none⟩)) hnl)
          unfold Oper.wp execOp
          go_simp
          exact hK _ _ ⟨⟨gk, rfl, h1, ((Kept.refl [] w').alloc _).heap h2 (by simp), _, rfl, (heap_alloc_new w' _).trans (by rw [← unhide hb1]; rfl)⟩, i.alloc _⟩)
        (by
          intro u0 u1 u2 u3 w' hh K hK
          simp only [Act.put, List.setIfInBounds_toArray, List.set_cons_zero, List.set_cons_succ] at hK ⊢
          obtain ⟨⟨gk, rfl, h1, h2, H, rfl, hH⟩, i⟩ := hh
          have hnl : (nodT z pa.s top.s).length = 32 := (nodS_dg z pa.s top.s).1
          obtain ⟨g2, cap2, w1, hrun, h3, h4, h5⟩ := pushK w' base (.slice (some ⟨g1, 0, none⟩) j cap1) j (cellsK front2) (nodT z pa.s top.s) (.pointer (some ⟨gk, 0, none⟩)) H (i.owns (unhide HO6) (by simp)) hH hnl rfl (by omega) (Nat.le_trans hbW i.size)
          have k4 : Kept [g1] w' w1 := (Kept.refl [g1] w').grown h4 (by intro k hk; left; simp [Value.ownBlock] at hk; simp [hk])
          exact wp_appendT rfl rfl rfl rfl hrun (hK _ _ ⟨⟨gk, rfl, h1, k4.heap h2 (by simp; omega), g2, cap2, rfl, h3, h5.elim (fun e => Or.inl (by simp [Value.ownBlock] at e; exact e.symm)) (fun e => Or.inr (by have := i.size; omega))⟩, (i.mono (by simp)).trans k4 (by simp)⟩))
        (by
          intro u0 u1 u2 u3 u4 w' hh K hK
          simp only [Act.put, List.setIfInBounds_toArray, List.set_cons_zero, List.set_cons_succ] at hK ⊢
          obtain ⟨⟨gk, rfl, h1, h2, g2, cap2, rfl, h3, h8⟩, i⟩ := hh
          unfold Oper.wp execOp; go_simp; exact hK _ _ ⟨rfl, ⟨gk, rfl, h1, h2, g2, cap2, rfl, h3, h8⟩, i⟩)
        (by
          intro u0 u1 u2 u3 u4 u5 w' hh K hK
          simp only [Act.put, List.setIfInBounds_toArray, List.set_cons_zero, List.set_cons_succ] at hK ⊢
          obtain ⟨rfl, ⟨gk, rfl, h1, h2, g2, cap2, rfl, h3, h8⟩, i⟩ := hh
          unfold Oper.wp execOp; go_simp; exact hK _ _ ⟨rfl, rfl, ⟨gk, rfl, h1, h2, g2, cap2, rfl, h3, h8⟩, i⟩)
        (by
          intro u0 u1 u2 u3 u4 u5 u6 w' hh K hK
          simp only [Act.put, List.setIfInBounds_toArray, List.set_cons_zero, List.set_cons_succ] at hK ⊢
          obtain ⟨rfl, rfl, ⟨gk, rfl, h1, h2, g2, cap2, rfl, h3, h8⟩, i⟩ := hh
          have hq := i.heap (unhide HT6) (by simpa using htg)
          have kS := (Kept.refl [t] w').setCell (p := ⟨t, 2, none⟩) (Or.inl (by simp)) (.slice (some ⟨g2, 0, none⟩) (j + 1) cap2)
          have htW := lt_of_block (unhide HT6)
          exact wp_store_t2 _ _ rfl t _ _ ⟨_, _, _, rfl⟩ rfl rfl hq (by simp) (hK _ ⟨⟨gk, rfl, h1, kS.heap h2 (by simp; omega), g2, cap2, rfl, kS.owns h3 (by intro b hb hm; simp [Value.ownBlock] at hb hm; subst hb; exact owns_ne h3 hq (by decide) hm.symm), h8, heap_setCell_same w' t 2 _ 83 (.slice (some ⟨g2, 0, none⟩) (j + 1) cap2) hq⟩, (i.mono (by simp)).setCell (Or.inl (by simp)) _⟩))
        ?_
      rintro u0 u1 u2 u3 u4 u5 u6 W7 ⟨⟨gk, rfl, h1, h2, g2, cap2, rfl, h3, h8, h9⟩, k7⟩
      simp only [Act.put, List.setIfInBounds_toArray, List.set_cons_zero, List.set_cons_succ]
      rw [← hj] at h3 h9
      have HR1 := hide ((unhide HRL).step (unhide HF) (unhide HK6) k7 h1 h2 h3 h9 h8)
      clear h1 h2 h3 h9 h8 k7 HT6 HO6 HOV HLs HRs HLp HRp HK6 HF HRL Hpa Htop cq6 cz6 cq cz
      have hi1 : (i : Int) + 1 < 9223372036854775808 := by omega
      go_wp2_with fail
      refine ⟨⟨i + 1, _, _, _, _, by omega, by simp, HR1⟩, ?_⟩
      simp [intOf]
      omega
    · have hie : i = c := by omega
      subst hie
      have HE := hide (unhide HFI _ _ _ _ _ (unhide HRL))
      go_wp2_with fail
      exact ⟨rfl, _, results_none rfl _ _ _, rfl, unhide HE⟩

end Go.Proofs.YtbljofojeagdkaaDoor
namespace Go.Proofs.YtbljofojeagdkaaDoor
open Go.RowKit Go.BigFrame
set_option linter.unusedVariables false
set_option linter.unusedSimpArgs false

theorem owns_baseK {w : World} {b b' e s n : Nat} {v : Value} {xs : List Value} (h : w.ownsRow b e s v n xs) (hb : b' ≤ b) : w.ownsRow b' e s v n xs := by
  refine ⟨h.1, ?_⟩
  rcases h.2 with h9 | ⟨g, cap, cur, h1, h2, h3⟩
  · exact .inl h9
  · exact .inr ⟨g, cap, cur, h1, Nat.le_trans hb h2, h3⟩
/-- Append within: so many leaves are laid behind. -/
structure AppI (z : Int) (ps : List Pk) (ls : List (List Nat)) (w : World) (t base i : Nat) (v : Value) (qs : List Pk) (wr : World) : Prop where
  row : wr.heap[t]? = some (.cells #[.int .i64 z, .int .u64 (((leavesK ps).length + i : Nat) : Int), v] 83 (0, 0))
  own : wr.ownsRow base 87 33 v qs.length (cellsK qs)
  pk : PKs z wr qs
  lv : leavesK qs = leavesK ps ++ ls.take i
  nil : qs = [] → v = .slice none 0 0
  kept : Kept [] w wr
  bw : w.heap.size ≤ base
  bt : w.heap.size ≤ t
  br : base ≤ wr.heap.size
theorem AppI.far {z : Int} {ps : List Pk} {ls : List (List Nat)} {w : World} {t base i : Nat} {v : Value} {qs : List Pk} {wr : World} (h : AppI z ps ls w t base i v qs wr) (hT : Tabs w) (h6 : Tab6 w) : Far t v := by
  have e1 := block_lt_of_cell (hT.1 0 (by decide))
  have e2 := block_lt_of_cell (hT.2 0 (by decide))
  have e3 := block_lt_of_cell (h6 0 (by decide))
  simp only at e1 e2 e3
  intro b hb
  have hbb : w.heap.size ≤ b := by
    simp only [List.mem_cons, Option.mem_toList] at hb
    rcases hb with rfl | hb
    · exact h.bt
    · exact Nat.le_trans h.bw (h.own.lt b hb).1
  refine ⟨?_, ?_, ?_⟩ <;> omega
theorem AppI.len {z : Int} {ps : List Pk} {ls : List (List Nat)} {w : World} {t base i : Nat} {v : Value} {qs : List Pk} {wr : World} (h : AppI z ps ls w t base i v qs wr) (hi : i ≤ ls.length) : (leavesK ps).length + i = (leavesK qs).length := by
  rw [h.lv, List.length_append, List.length_take, Nat.min_eq_left hi]
theorem AppI.step {z : Int} {ps : List Pk} {ls : List (List Nat)} {w : World} {t base i : Nat} {v : Value} {qs : List Pk} {wr wa w' : World} (h : AppI z ps ls w t base i v qs wr) (hi : i < ls.length) (ka : Kept [] wr wa) (hp : PushD z t ((leavesK ps).length + i) base v qs (ls.getD i []) wa w') : ∃ v' rs, AppI z ps ls w t base (i + 1) v' rs w' := by
  obtain ⟨g, cap, rs, h1, h2, h3, h4, h5, h6, h7⟩ := hp
  refine ⟨_, rs, h1, h2, h3, ?_, fun e => absurd e h5, ?_, h.bw, h.bt, Nat.le_trans h.br (Nat.le_trans ka.size h6.size)⟩
  · rw [h4, h.lv, List.append_assoc, List.take_succ_eq_append_getElem hi, List.getD_eq_getElem?_getD, List.getElem?_eq_getElem hi]; rfl
  · refine (h.kept.trans ka (by simp)).trans h6 ?_
    intro x hx
    right
    simp only [List.mem_cons, Option.mem_toList] at hx
    rcases hx with rfl | hx
    · exact h.bt
    · exact Nat.le_trans h.bw (h.own.lt x hx).1
theorem owns_rdK {w : World} {base : Nat} {v : Value} {ps : List Pk} (h : w.ownsRow base 87 33 v ps.length (cellsK ps)) : RdK3 w v ps := by
  rcases id h.2 with ⟨h9, h1⟩ | ⟨g, cap, cur, h1, h2⟩
  · subst h9
    exact ⟨none, 0, by rw [h1], by omega, by omega, fun h => by omega⟩
  · subst h1
    exact owns_rd h rfl
theorem AppI.fin {z : Int} {ps : List Pk} {ls : List (List Nat)} {w : World} {t base : Nat} {v : Value} {qs : List Pk} {wr : World} (h : AppI z ps ls w t base ls.length v qs wr) (hw : widthB z = true) : TreeAt z wr t v qs ∧ leavesK qs = leavesK ps ++ ls := by
  have h1 := h.len (Nat.le_refl _)
  have h2 := h.row
  rw [h1] at h2
  exact ⟨⟨h2, hw, owns_rdK h.own, h.pk⟩, by rw [h.lv, List.take_length]⟩
end Go.Proofs.YtbljofojeagdkaaDoor
namespace Go.Proofs.YtbljofojeagdkaaDoor
open Go.RowKit Go.BigFrame
set_option linter.unusedVariables false
set_option linter.unusedSimpArgs false

/-- Peaks behind an empty row that is owned. -/
theorem appendK (w : World) (base : Nat) (v : Value) (ps : List Pk) (b off c : Nat) (h : w.ownsRow base 87 33 v 0 []) (hr : RdK3 w (.slice (some ⟨b, off, none⟩) ps.length c) ps) (hp : 0 < ps.length) (hlen : (cellsK ps).length = ps.length * 33) (h1 : ∀ u ∈ cellsK ps, u.oneCell' = true) (hl : ps.length ≤ 1000000000) (hb : base ≤ w.heap.size) :
    ∃ g cap w1, (Builtin.append_ #[81, 81] 81 #[v, .slice (some ⟨b, off, none⟩) ps.length c]).run Tryd.prog w = .ok (.slice (some ⟨g, 0, none⟩) ps.length cap) w1 ∧
      w1.ownsRow base 87 33 (.slice (some ⟨g, 0, none⟩) ps.length cap) ps.length (cellsK ps) ∧ w.grownBy w1 v.ownBlock ∧ (v.ownBlock = some g ∨ g = w.heap.size) := by
  obtain ⟨i0, hi, hz0, hz1, hz2⟩ := info_parts Tryd.infoP
  obtain ⟨ao, cap, he, h2, h3, h4⟩ := hr
  cases he
  obtain ⟨b', off', e, hc⟩ := h4 hp
  cases e
  obtain ⟨g, cap, w1, hrun, hown, hgrow, hat, hlt⟩ := run_append_lies (P := Tryd.prog) w 81 81 base 87 i0 (.agg zP) 33 40 Tryd.underlying81 hi hz0 hz1 hz2 rfl (by decide)
    v 0 [] h ⟨b, off, none⟩ ps.length c (cellsK ps) hlen (fun j u hj => by rw [Addr.add_mid]; exact hc j u hj) h1 hp (by unfold maxLen; omega) (by omega) hb _ rfl
  simp only [Nat.zero_add, List.nil_append] at hrun hown
  exact ⟨g, cap, w1, hrun, hown, hgrow, hat⟩

set_option maxRecDepth 100000 in
set_option maxHeartbeats 1000000 in
theorem cloneK_any (z : Int) (v : Value) (ps : List Pk) (w : World) (h : RdK3 w v ps) (hpk : PKs z w ps) (hnil : ps = [] → v = .slice none 0 0) (hl : ps.length ≤ 1000000000) :
    Calls Tryd.prog 41 #[v] w fun e w' => ∃ v', e = .returned v' ∧ w'.ownsRow w.heap.size 87 33 v' ps.length (cellsK ps) ∧ (ps = [] → v' = .slice none 0 0) ∧ Kept [] w w' := by
  by_cases hp : ps = []
  · subst hp
    obtain rfl := hnil rfl
    have hq : ∀ W : World, (binOp .eql 81 (.slice none 0 0) (.slice none 0 0)).run Tryd.prog W = .ok (.bool true) W := by
      intro W
      simp only [binOp]
      simp [run_equal_slice_nil W 81 87 none 0 0 Tryd.underlying81]
    go_enter Tryd.func41, Tryd.ntmps41
    go_wp2_with fail
    go_ret
    exact ⟨_, rfl, ⟨rfl, Or.inl ⟨rfl, rfl⟩⟩, rfl, Kept.refl _ _⟩
  · have hp0 : 0 < ps.length := List.length_pos_iff.2 hp
    have H := hide h
    obtain ⟨a1, c1, rfl, hc1, hc2, hc3⟩ := id h
    obtain ⟨b, off, rfl, _⟩ := hc3 hp0
    clear h hc3
    have HL := hide (cellsK_len' (fun p hp => (hpk.ok p hp).dg.1))
    have H1 := hide (cellsK_one hpk.ok)
    have HO := hide (World.ownsRow_made (base := w.heap.size) (e := 87) (size := 33) w #[] 0 (Nat.le_refl _) (by unfold maxLen; omega) (by simp))
    have hq : ∀ W : World, (binOp .eql 81 (.slice (some ⟨b, off, none⟩) ps.length c1) (.slice none 0 0)).run Tryd.prog W = .ok (.bool false) W := by
      intro W
      simp only [binOp]
      simp [run_equal_slice_nil W 81 87 (some ⟨b, off, none⟩) ps.length c1 Tryd.underlying81]
    obtain ⟨g, cap, w1, hrun, h3, h4, h5⟩ := appendK (w.alloc (.cells #[] 87)) w.heap.size (.slice (some ⟨w.heap.size, 0, none⟩) 0 0) ps b off c1 (unhide HO) ((unhide H).old ((Kept.refl [] w).alloc _)) hp0 (unhide HL) (unhide H1) hl (by simp)
    have HR := hide hrun
    have HO1 := hide h3
    have HK1 := hide (((Kept.refl [] w).alloc _).grown h4 (by intro k hk; right; simp [Value.ownBlock] at hk; omega))
    clear hrun h3 h4 h5 HO hpk hnil
    go_enter Tryd.func41, Tryd.ntmps41
    go_wp2_with (at_builtin; refine wpList_plain rfl fun K hK' => ?_; refine wp_appendT rfl rfl rfl rfl (unhide HR) (hK' _ _ ?_))
    go_ret
    exact ⟨_, rfl, unhide HO1, fun e => absurd e hp, unhide HK1⟩

end Go.Proofs.YtbljofojeagdkaaDoor
/-
  Laws for drawn regions, by genreg.py. No program.
-/
namespace Go.Proofs.YtbljofojeagdkaaDoor
open Go Go.RowKit Go.BigFrame
set_option linter.unusedVariables false
set_option linter.unusedSimpArgs false
section
variable {P : Program} {Q : Exit → Act → World → Prop}
theorem wp_ap16 {id : Nat} {o0 o1 o2 o3 o4 o5 o6 o7 o8 o9 o10 o11 o12 o13 o14 o15 : Oper} {a : Act} {w : World} (hm : P.follows .mixedOrders = true) (hs : Region.noSelect #[o0, o1, o2, o3, o4, o5, o6, o7, o8, o9, o10, o11, o12, o13, o14, o15] = true)
    (f0 : Region.free .any #[o0, o1, o2, o3, o4, o5, o6, o7, o8, o9, o10, o11, o12, o13, o14, o15] #[false, false, false, false, false, false, false, false, false, false, false, false, false, false, false, false] 0 = true) (r0 : (Region.ready .any #[o0, o1, o2, o3, o4, o5, o6, o7, o8, o9, o10, o11, o12, o13, o14, o15] #[false, false, false, false, false, false, false, false, false, false, false, false, false, false, false, false]).contains 0 = true)
    (f1 : Region.free .any #[o0, o1, o2, o3, o4, o5, o6, o7, o8, o9, o10, o11, o12, o13, o14, o15] #[true, false, false, false, false, false, false, false, false, false, false, false, false, false, false, false] 1 = true) (r1 : (Region.ready .any #[o0, o1, o2, o3, o4, o5, o6, o7, o8, o9, o10, o11, o12, o13, o14, o15] #[true, false, false, false, false, false, false, false, false, false, false, false, false, false, false, false]).contains 1 = true)
    (f2 : Region.free .any #[o0, o1, o2, o3, o4, o5, o6, o7, o8, o9, o10, o11, o12, o13, o14, o15] #[true, true, false, false, false, false, false, false, false, false, false, false, false, false, false, false] 2 = true) (r2 : (Region.ready .any #[o0, o1, o2, o3, o4, o5, o6, o7, o8, o9, o10, o11, o12, o13, o14, o15] #[true, true, false, false, false, false, false, false, false, false, false, false, false, false, false, false]).contains 2 = true)
    (f3 : Region.free .any #[o0, o1, o2, o3, o4, o5, o6, o7, o8, o9, o10, o11, o12, o13, o14, o15] #[true, true, true, false, false, false, false, false, false, false, false, false, false, false, false, false] 3 = true) (r3 : (Region.ready .any #[o0, o1, o2, o3, o4, o5, o6, o7, o8, o9, o10, o11, o12, o13, o14, o15] #[true, true, true, false, false, false, false, false, false, false, false, false, false, false, false, false]).contains 3 = true)
    (f4 : Region.free .any #[o0, o1, o2, o3, o4, o5, o6, o7, o8, o9, o10, o11, o12, o13, o14, o15] #[true, true, true, true, false, false, false, false, false, false, false, false, false, false, false, false] 4 = true) (r4 : (Region.ready .any #[o0, o1, o2, o3, o4, o5, o6, o7, o8, o9, o10, o11, o12, o13, o14, o15] #[true, true, true, true, false, false, false, false, false, false, false, false, false, false, false, false]).contains 4 = true)
    (f5 : Region.free .any #[o0, o1, o2, o3, o4, o5, o6, o7, o8, o9, o10, o11, o12, o13, o14, o15] #[true, true, true, true, true, false, false, false, false, false, false, false, false, false, false, false] 5 = true) (r5 : (Region.ready .any #[o0, o1, o2, o3, o4, o5, o6, o7, o8, o9, o10, o11, o12, o13, o14, o15] #[true, true, true, true, true, false, false, false, false, false, false, false, false, false, false, false]).contains 5 = true)
    (f6 : Region.free .any #[o0, o1, o2, o3, o4, o5, o6, o7, o8, o9, o10, o11, o12, o13, o14, o15] #[true, true, true, true, true, true, false, false, false, false, false, false, false, false, false, false] 6 = true) (r6 : (Region.ready .any #[o0, o1, o2, o3, o4, o5, o6, o7, o8, o9, o10, o11, o12, o13, o14, o15] #[true, true, true, true, true, true, false, false, false, false, false, false, false, false, false, false]).contains 6 = true)
    (f7 : Region.free .any #[o0, o1, o2, o3, o4, o5, o6, o7, o8, o9, o10, o11, o12, o13, o14, o15] #[true, true, true, true, true, true, true, false, false, false, false, false, false, false, false, false] 7 = true) (r7 : (Region.ready .any #[o0, o1, o2, o3, o4, o5, o6, o7, o8, o9, o10, o11, o12, o13, o14, o15] #[true, true, true, true, true, true, true, false, false, false, false, false, false, false, false, false]).contains 7 = true)
    (f8 : Region.free .any #[o0, o1, o2, o3, o4, o5, o6, o7, o8, o9, o10, o11, o12, o13, o14, o15] #[true, true, true, true, true, true, true, true, false, false, false, false, false, false, false, false] 8 = true) (r8 : (Region.ready .any #[o0, o1, o2, o3, o4, o5, o6, o7, o8, o9, o10, o11, o12, o13, o14, o15] #[true, true, true, true, true, true, true, true, false, false, false, false, false, false, false, false]).contains 8 = true)
    (f9 : Region.free .any #[o0, o1, o2, o3, o4, o5, o6, o7, o8, o9, o10, o11, o12, o13, o14, o15] #[true, true, true, true, true, true, true, true, true, false, false, false, false, false, false, false] 9 = true) (r9 : (Region.ready .any #[o0, o1, o2, o3, o4, o5, o6, o7, o8, o9, o10, o11, o12, o13, o14, o15] #[true, true, true, true, true, true, true, true, true, false, false, false, false, false, false, false]).contains 9 = true)
    (f10 : Region.free .any #[o0, o1, o2, o3, o4, o5, o6, o7, o8, o9, o10, o11, o12, o13, o14, o15] #[true, true, true, true, true, true, true, true, true, true, false, false, false, false, false, false] 10 = true) (r10 : (Region.ready .any #[o0, o1, o2, o3, o4, o5, o6, o7, o8, o9, o10, o11, o12, o13, o14, o15] #[true, true, true, true, true, true, true, true, true, true, false, false, false, false, false, false]).contains 10 = true)
    (f11 : Region.free .any #[o0, o1, o2, o3, o4, o5, o6, o7, o8, o9, o10, o11, o12, o13, o14, o15] #[true, true, true, true, true, true, true, true, true, true, true, false, false, false, false, false] 11 = true) (r11 : (Region.ready .any #[o0, o1, o2, o3, o4, o5, o6, o7, o8, o9, o10, o11, o12, o13, o14, o15] #[true, true, true, true, true, true, true, true, true, true, true, false, false, false, false, false]).contains 11 = true)
    (q_ : Region.ready .any #[o0, o1, o2, o3, o4, o5, o6, o7, o8, o9, o10, o11, o12, o13, o14, o15] #[true, true, true, true, true, true, true, true, true, true, true, true, false, false, false, false] = [12])
    (f_12_13 : Region.free .any #[o0, o1, o2, o3, o4, o5, o6, o7, o8, o9, o10, o11, o12, o13, o14, o15] #[true, true, true, true, true, true, true, true, true, true, true, true, true, false, false, false] 13 = true) (r_12_13 : (Region.ready .any #[o0, o1, o2, o3, o4, o5, o6, o7, o8, o9, o10, o11, o12, o13, o14, o15] #[true, true, true, true, true, true, true, true, true, true, true, true, true, false, false, false]).contains 13 = true)
    (q12_ : Region.ready .any #[o0, o1, o2, o3, o4, o5, o6, o7, o8, o9, o10, o11, o12, o13, o14, o15] #[true, true, true, true, true, true, true, true, true, true, true, true, true, true, false, false] = [14])
    (f12_14_15 : Region.free .any #[o0, o1, o2, o3, o4, o5, o6, o7, o8, o9, o10, o11, o12, o13, o14, o15] #[true, true, true, true, true, true, true, true, true, true, true, true, true, true, true, false] 15 = true) (r12_14_15 : (Region.ready .any #[o0, o1, o2, o3, o4, o5, o6, o7, o8, o9, o10, o11, o12, o13, o14, o15] #[true, true, true, true, true, true, true, true, true, true, true, true, true, true, true, false]).contains 15 = true)
    (q12_14_ : Region.ready .any #[o0, o1, o2, o3, o4, o5, o6, o7, o8, o9, o10, o11, o12, o13, o14, o15] #[true, true, true, true, true, true, true, true, true, true, true, true, true, true, true, true] = [])
    (g12 : o12.guard = none)    (g14 : o14.guard = none)
    (v0 v1 v2 v3 v4 v5 v6 v7 v8 v9 v10 v11 : Value) (A0 A1 A2 A3 A4 A5 A6 A7 A8 A9 A10 A11 : Act)
    (S : World → Prop)
    (I_ : World → Prop)
    (I12_ : Value → World → Prop)
    (I12_14_ : Value → Value → World → Prop)
    (v13 : Value → Value)
    (v15 : Value → Value)
    (p0 : a.put o0.dst v0 = A0) (hy0 : YieldsIf P #[o0, o1, o2, o3, o4, o5, o6, o7, o8, o9, o10, o11, o12, o13, o14, o15] S o0 v0 a)
    (p1 : A0.put o1.dst v1 = A1) (hy1 : YieldsIf P #[o0, o1, o2, o3, o4, o5, o6, o7, o8, o9, o10, o11, o12, o13, o14, o15] S o1 v1 A0)
    (p2 : A1.put o2.dst v2 = A2) (hy2 : YieldsIf P #[o0, o1, o2, o3, o4, o5, o6, o7, o8, o9, o10, o11, o12, o13, o14, o15] S o2 v2 A1)
    (p3 : A2.put o3.dst v3 = A3) (hy3 : YieldsIf P #[o0, o1, o2, o3, o4, o5, o6, o7, o8, o9, o10, o11, o12, o13, o14, o15] S o3 v3 A2)
    (p4 : A3.put o4.dst v4 = A4) (hy4 : YieldsIf P #[o0, o1, o2, o3, o4, o5, o6, o7, o8, o9, o10, o11, o12, o13, o14, o15] S o4 v4 A3)
    (p5 : A4.put o5.dst v5 = A5) (hy5 : YieldsIf P #[o0, o1, o2, o3, o4, o5, o6, o7, o8, o9, o10, o11, o12, o13, o14, o15] S o5 v5 A4)
    (p6 : A5.put o6.dst v6 = A6) (hy6 : YieldsIf P #[o0, o1, o2, o3, o4, o5, o6, o7, o8, o9, o10, o11, o12, o13, o14, o15] S o6 v6 A5)
    (p7 : A6.put o7.dst v7 = A7) (hy7 : YieldsIf P #[o0, o1, o2, o3, o4, o5, o6, o7, o8, o9, o10, o11, o12, o13, o14, o15] S o7 v7 A6)
    (p8 : A7.put o8.dst v8 = A8) (hy8 : YieldsIf P #[o0, o1, o2, o3, o4, o5, o6, o7, o8, o9, o10, o11, o12, o13, o14, o15] S o8 v8 A7)
    (p9 : A8.put o9.dst v9 = A9) (hy9 : YieldsIf P #[o0, o1, o2, o3, o4, o5, o6, o7, o8, o9, o10, o11, o12, o13, o14, o15] S o9 v9 A8)
    (p10 : A9.put o10.dst v10 = A10) (hy10 : YieldsIf P #[o0, o1, o2, o3, o4, o5, o6, o7, o8, o9, o10, o11, o12, o13, o14, o15] S o10 v10 A9)
    (p11 : A10.put o11.dst v11 = A11) (hy11 : YieldsIf P #[o0, o1, o2, o3, o4, o5, o6, o7, o8, o9, o10, o11, o12, o13, o14, o15] S o11 v11 A10)
    (i0 : I_ w.drew)
    (hIS : (∀ w', I_  w' → S w') ∧ (∀ (u12 : Value) w', I12_ u12 w' → S w') ∧ (∀ (u12 u14 : Value) w', I12_14_ u12 u14 w' → S w'))
    (s_12 : ∀ w', I_  w' → ∀ K : Act → World → Prop, (∀ (u12 : Value) w2, I12_ u12 w2 → K (A11.put o12.dst u12) w2) → o12.wp P A11 w' K (NoPanic Q))
    (s12_14 : ∀ (u12 : Value) w', I12_ u12 w' → ∀ K : Act → World → Prop, (∀ (u14 : Value) w2, I12_14_ u12 u14 w2 → K (((A11.put o12.dst u12).put o13.dst (v13 u12)).put o14.dst u14) w2) → o14.wp P ((A11.put o12.dst u12).put o13.dst (v13 u12)) w' K (NoPanic Q))
    (y_12_13 : ∀ (u12 : Value) w', I12_ u12 w' → YieldsIf P #[o0, o1, o2, o3, o4, o5, o6, o7, o8, o9, o10, o11, o12, o13, o14, o15] S o13 (v13 u12) (A11.put o12.dst u12))
    (y12_14_15 : ∀ (u12 u14 : Value) w', I12_14_ u12 u14 w' → YieldsIf P #[o0, o1, o2, o3, o4, o5, o6, o7, o8, o9, o10, o11, o12, o13, o14, o15] S o15 (v15 u14) (((A11.put o12.dst u12).put o13.dst (v13 u12)).put o14.dst u14))
    (h : ∀ (u12 u14 : Value) w', I12_14_ u12 u14 w' → Q .normal ((((A11.put o12.dst u12).put o13.dst (v13 u12)).put o14.dst u14).put o15.dst (v15 u14)) w') :
    (Code.region id #[o0, o1, o2, o3, o4, o5, o6, o7, o8, o9, o10, o11, o12, o13, o14, o15] true).wp P Q a w := by
  subst p0 p1 p2 p3 p4 p5 p6 p7 p8 p9 p10 p11
  obtain ⟨z_, z12_, z12_14_⟩ := hIS
  refine wp_region_noPanic ?_
  refine wp_region_held_drew (S := S) hm (z_ _ i0) (fun hH => ?_)
  show wpAnyH P .any #[o0, o1, o2, o3, o4, o5, o6, o7, o8, o9, o10, o11, o12, o13, o14, o15] (NoPanic Q) S 16 #[false, false, false, false, false, false, false, false, false, false, false, false, false, false, false, false] a w.drew
  refine wpAnyH_take (i := 0) (oi := o0) rfl hs f0 r0 (fun _ _ _ h => h) hy0 hH ?_
  refine wpAnyH_take (i := 1) (oi := o1) rfl hs f1 r1 (fun _ _ _ h => h) hy1 hH ?_
  refine wpAnyH_take (i := 2) (oi := o2) rfl hs f2 r2 (fun _ _ _ h => h) hy2 hH ?_
  refine wpAnyH_take (i := 3) (oi := o3) rfl hs f3 r3 (fun _ _ _ h => h) hy3 hH ?_
  refine wpAnyH_take (i := 4) (oi := o4) rfl hs f4 r4 (fun _ _ _ h => h) hy4 hH ?_
  refine wpAnyH_take (i := 5) (oi := o5) rfl hs f5 r5 (fun _ _ _ h => h) hy5 hH ?_
  refine wpAnyH_take (i := 6) (oi := o6) rfl hs f6 r6 (fun _ _ _ h => h) hy6 hH ?_
  refine wpAnyH_take (i := 7) (oi := o7) rfl hs f7 r7 (fun _ _ _ h => h) hy7 hH ?_
  refine wpAnyH_take (i := 8) (oi := o8) rfl hs f8 r8 (fun _ _ _ h => h) hy8 hH ?_
  refine wpAnyH_take (i := 9) (oi := o9) rfl hs f9 r9 (fun _ _ _ h => h) hy9 hH ?_
  refine wpAnyH_take (i := 10) (oi := o10) rfl hs f10 r10 (fun _ _ _ h => h) hy10 hH ?_
  refine wpAnyH_take (i := 11) (oi := o11) rfl hs f11 r11 (fun _ _ _ h => h) hy11 hH ?_
  generalize ((((((((((((a.put o0.dst v0).put o1.dst v1).put o2.dst v2).put o3.dst v3).put o4.dst v4).put o5.dst v5).put o6.dst v6).put o7.dst v7).put o8.dst v8).put o9.dst v9).put o10.dst v10).put o11.dst v11) = B at *
  have wa12 : ∀ y, Region.wanted o12 y = true := fun y => by unfold Region.wanted; rw [g12]
  have wa14 : ∀ y, Region.wanted o14 y = true := fun y => by unfold Region.wanted; rw [g14]
  have t12_14_ : ∀ (u12 u14 : Value) w', I12_14_ u12 u14 w' → wpAnyH P .any #[o0, o1, o2, o3, o4, o5, o6, o7, o8, o9, o10, o11, o12, o13, o14, o15] (NoPanic Q) S 0 #[true, true, true, true, true, true, true, true, true, true, true, true, true, true, true, true] ((((B.put o12.dst u12).put o13.dst (v13 u12)).put o14.dst u14).put o15.dst (v15 u14)) w' := by
    intro u12 u14 w0 i0
    exact ⟨q12_14_, NoPanic.normal (h u12 u14 w0 i0)⟩
  have t12_ : ∀ (u12 : Value) w', I12_ u12 w' → wpAnyH P .any #[o0, o1, o2, o3, o4, o5, o6, o7, o8, o9, o10, o11, o12, o13, o14, o15] (NoPanic Q) S 2 #[true, true, true, true, true, true, true, true, true, true, true, true, true, true, false, false] ((B.put o12.dst u12).put o13.dst (v13 u12)) w' := by
    intro u12 w0 i0
    refine wpAnyH_ready (rs := [14]) q12_ (by simp) (AllReadyH.cons (o := o14) rfl (fun K hK => ?_) AllReadyH.nil)
    · rw [if_pos (wa14 _)]
      refine s12_14 u12 w0 i0 K (fun u14 w1 i1 => hK.out _ _ (z12_14_ u12 u14 w1 i1) (fun _ => ?_))
      clear hK
      refine wpAnyH_take (i := 15) (oi := o15) rfl hs f12_14_15 r12_14_15 (fun _ _ _ h => h) (y12_14_15 u12 u14 w1 i1) (z12_14_ u12 u14 w1 i1) ?_
      exact t12_14_ u12 u14 w1 i1
  have t_ : ∀ w', I_  w' → wpAnyH P .any #[o0, o1, o2, o3, o4, o5, o6, o7, o8, o9, o10, o11, o12, o13, o14, o15] (NoPanic Q) S 4 #[true, true, true, true, true, true, true, true, true, true, true, true, false, false, false, false] B w' := by
    intro w0 i0
    refine wpAnyH_ready (rs := [12]) q_ (by simp) (AllReadyH.cons (o := o12) rfl (fun K hK => ?_) AllReadyH.nil)
    · rw [if_pos (wa12 _)]
      refine s_12  w0 i0 K (fun u12 w1 i1 => hK.out _ _ (z12_ u12 w1 i1) (fun _ => ?_))
      clear hK
      refine wpAnyH_take (i := 13) (oi := o13) rfl hs f_12_13 r_12_13 (fun _ _ _ h => h) (y_12_13 u12 w1 i1) (z12_ u12 w1 i1) ?_
      exact t12_ u12 w1 i1
  exact t_ w.drew i0

end
end Go.Proofs.YtbljofojeagdkaaDoor
namespace Go.Proofs.YtbljofojeagdkaaDoor
open Go.RowKit Go.BigFrame
set_option linter.unusedVariables false
set_option linter.unusedSimpArgs false

theorem appendT_nil (lv : Value) (w : World) : Calls Tryd.prog 24 #[.pointer none, lv] w fun e w' => e = .returned (.tuple #[.pointer none, .int .i64 5]) ∧ w' = w := by
  go_enter Tryd.func24, Tryd.ntmps24
  go_wp2
  exact bodyPost_ret (results_tmp2 rfl _ _ _) rfl ⟨rfl, rfl⟩

/-- What Append answers. -/
def AppD (z : Int) (ps : List Pk) (ls : List (List Nat)) (w : World) (e : Ending) (w' : World) : Prop :=
  (ls.all (formB z) = true → ∃ t' v' qs, e = .returned (.tuple #[.pointer (some ⟨t', 0, none⟩), .int .i64 0]) ∧ w.heap.size ≤ t' ∧ TreeAt z w' t' v' qs ∧ leavesK qs = leavesK ps ++ ls ∧ (qs = [] → v' = .slice none 0 0)) ∧
  (ls.all (formB z) = false → e = .returned (.tuple #[.pointer none, .int .i64 3])) ∧ Kept [] w w'

set_option maxRecDepth 100000 in
set_option maxHeartbeats 1000000 in
theorem appendT_any (z : Int) (t : Nat) (v lv : Value) (ps : List Pk) (ls : List (List Nat)) (w : World) (h : TreeAt z w t v ps) (hnil : ps = [] → v = .slice none 0 0) (hl : RdD w lv ls) (hN : (leavesK ps).length + ls.length ≤ 1000000000) (hT : Tabs w) (h6 : Tab6 w) :
    Calls Tryd.prog 24 #[.pointer (some ⟨t, 0, none⟩), lv] w (AppD z ps ls w) := by
  have hz : 1 ≤ z ∧ z ≤ 32 := by simpa [widthB] using h.wid
  have hz2 : -9223372036854775808 ≤ z ∧ z ≤ 9223372036854775807 := by omega
  have HT := hide h
  have HL := hide hl
  obtain ⟨ao, len, cap, rfl, h1, h2, h3, h4, h5⟩ := hl
  subst h1
  clear h4 h5 h
  have cz := cell_of_row _ _ 0 _ _ _ (unhide HT).row
  simp at cz
  have HTB := hide hT
  have H6B := hide h6
  have HNL := hide hnil
  clear hT h6 hnil
  go_enter Tryd.func24, Tryd.ntmps24
  go_wp2_with fail
  go_loopw [15] (fun t15 wr => ∃ (i : Nat), i ≤ ls.length ∧ t15 = .int .i64 i ∧ Hid ((ls.take i).all (formB z) = true) ∧ Hid (Kept [] w wr)) (fun t _ => ls.length - (intOf t).toNat)
  case atStart => exact ⟨0, Nat.zero_le _, rfl, hide (by simp), hide (Kept.refl _ _)⟩
  case round =>
    obtain ⟨j, hj, rfl, HAJ, HKJ⟩ := hrel
    by_cases hjl : j < ls.length
    · have hjl' : (j : Int) < ls.length := by omega
      obtain ⟨ra, rl, rc, re, r1, r2, r3, r4, r5⟩ := unhide HL
      cases re
      obtain ⟨b, o, rfl, hcell⟩ := r5 (by omega)
      have HD := hide (r4 (ls.getD j []) (by rw [List.getD_eq_getElem?_getD, List.getElem?_eq_getElem hjl]; exact List.getElem_mem hjl))
      have HRG := hide (fun u v hv => (unhide HKJ).cell (hcell j hjl u v hv) (by simp) : wr.rangeAt b (o + j * 32) ((ls.getD j []).map Go.Proofs.YtbljofojeagdkaaDoor.u8))
      have HN := hide (by rw [List.take_succ_eq_append_getElem hjl, List.all_append, unhide HAJ, List.getD_eq_getElem?_getD, List.getElem?_eq_getElem hjl]; simp : (ls.take (j + 1)).all (formB z) = formB z (ls.getD j []))
      have HM := hide (fun (h : formB z (ls.getD j []) = false) => by
        rw [List.all_eq_false]
        exact ⟨ls.getD j [], by rw [List.getD_eq_getElem?_getD, List.getElem?_eq_getElem hjl]; exact List.getElem_mem hjl, by rw [h]; decide⟩ : formB z (ls.getD j []) = false → ls.all (formB z) = false)
      clear hcell r4 r5
      obtain ⟨d, hd⟩ : ∃ d, ls.getD j [] = d := ⟨_, rfl⟩
      rw [hd] at HD HRG HN HM
      clear hd
      have hdl := (unhide HD).1
      have HSZ := hide (by rw [brow_size, hdl]; exact Tryd.size_dig : (Tryd.prog.info? 23).map (·.size) = some (brow d).size)
      have HNW := hide (setRow_heap (wr.alloc (.cells (zb 32) 23)) wr.heap.size (zb 32) (brow d) 23 (0, 0) (heap_alloc_new _ _))
      have HKN := hide (((unhide HKJ).alloc (.cells (zb 32) 23)).setRow (g := wr.heap.size) (Or.inr (unhide HKJ).size) (brow d))
      go_wp2_with (first
        | (refine wpList_load_mid rfl 23 (.tmp 17) rfl b (o + j * 32) rfl (d.map Go.Proofs.YtbljofojeagdkaaDoor.u8) _ (unhide HRG) Tryd.underlying23 rfl (by rw [List.length_map, hdl]; exact Tryd.size_dig) ?_)
        | (rw [zb32]; refine wpList_store_row rfl 23 (.tmp 7) _ rfl wr.heap.size (brow d) rfl rfl _ (zb 32) (heap_alloc_new _ _) (unhide HSZ) (by rw [zb_size, brow_size, hdl]) (brow_one _) ?_))
      obtain ⟨W, hW⟩ : ∃ W, (wr.alloc (.cells (zb 32) 23)).setRow wr.heap.size (brow d) = W := ⟨_, rfl⟩
      rw [hW] at HNW HKN ⊢
      clear hW
      have cz4 := (unhide HKN).cell cz (by simp)
      have HFO := hide (fun w' (hw' : Kept [] W w') => (form_any z d w' hz2 hdl (unhide HD).2).mono (fun e w2 (h2 : _ ∧ _) => (⟨h2.1, hw'.trans h2.2 (by simp)⟩ : _ ∧ Kept [] W w2)))
      cases hf : formB z d with
      | true =>
        rw [hf] at HN HFO
        clear hf
        have hne : ∀ p : Prop, (∀ w', Kept [] W w' → p) = p := fun p => propext ⟨fun h => h W (Kept.refl [] W), fun h _ _ => h⟩
        refine wp_region_keep (by kernel_rfl) (by kernel_rfl) ?_
        iterate 3 (go_big_quiet_step (fail))
        refine wpQuiet_val rfl (.int .i64 z) (fun w' hw' => run_load1 3 (.tmp 21) rfl ⟨t, 0, none⟩ rfl w' _ .i64 Tryd.underlying3 (hw'.cell cz4 (by simp))) ?_
        simp only [Act.put, List.setIfInBounds_toArray, List.set_cons_succ, List.set_cons_zero]
        refine wpQuiet_row rfl 23 (.tmp 7) rfl wr.heap.size rfl _ (brow d) (0, 0) _ (fun w' hw' => hw'.heap (unhide HNW) (by simp)) Tryd.underlying23 rfl (unhide HSZ) ?_
        simp only [Act.put, List.setIfInBounds_toArray, List.set_cons_succ, List.set_cons_zero]
        go_big_quiet_want
        go_big_quiet_op
        apply Exists.intro
        refine ⟨fun w' hw' => ?_, ?_⟩
        · exact unhide HFO w' hw'
        go_big_quiet_on
        repeat (go_big_quiet_step (fail))
        refine wpQuiet_nil ?_
        intro w6 hw6
        have HK6 := hide ((unhide HKN).trans hw6 (by simp))
        clear hw6
        go_wp2_with fail
        refine ⟨⟨j + 1, by omega, by go_num, HN, HK6⟩, ?_⟩
        simp [intOf]; omega
      | false =>
        have HF := hide (unhide HM hf)
        rw [hf] at HFO
        clear hf
        have hne : ∀ p : Prop, (∀ w', Kept [] W w' → p) = p := fun p => propext ⟨fun h => h W (Kept.refl [] W), fun h _ _ => h⟩
        refine wp_region_keep (by kernel_rfl) (by kernel_rfl) ?_
        iterate 3 (go_big_quiet_step (fail))
        refine wpQuiet_val rfl (.int .i64 z) (fun w' hw' => run_load1 3 (.tmp 21) rfl ⟨t, 0, none⟩ rfl w' _ .i64 Tryd.underlying3 (hw'.cell cz4 (by simp))) ?_
        simp only [Act.put, List.setIfInBounds_toArray, List.set_cons_succ, List.set_cons_zero]
        refine wpQuiet_row rfl 23 (.tmp 7) rfl wr.heap.size rfl _ (brow d) (0, 0) _ (fun w' hw' => hw'.heap (unhide HNW) (by simp)) Tryd.underlying23 rfl (unhide HSZ) ?_
        simp only [Act.put, List.setIfInBounds_toArray, List.set_cons_succ, List.set_cons_zero]
        go_big_quiet_want
        go_big_quiet_op
        apply Exists.intro
        refine ⟨fun w' hw' => ?_, ?_⟩
        · exact unhide HFO w' hw'
        go_big_quiet_on
        repeat (go_big_quiet_step (fail))
        refine wpQuiet_nil ?_
        intro w6 hw6
        have HK6 := hide ((unhide HKN).trans hw6 (by simp))
        clear hw6
        go_wp2_with fail
        exact bodyPost_ret (results_tmp2 rfl _ _ _) rfl ⟨fun h => absurd h (by rw [unhide HF]; decide), fun _ => rfl, unhide HK6⟩
    · have hjl' : ¬ (j : Int) < ls.length := by omega
      have hje : j = ls.length := by omega
      subst hje
      rw [List.take_length] at HAJ
      go_wp2_with fail
      have hN0 : (leavesK ps).length ≤ 1000000000 := by omega
      obtain ⟨va, vn, vc, rfl⟩ : ∃ a n c, v = .slice a n c := by obtain ⟨a, c, h9, _⟩ := (unhide HT).rd; exact ⟨_, _, _, h9⟩
      have c0 := (unhide HKJ).cell cz (by simp)
      have c1 : wr.cell? ⟨t, 1, none⟩ = some (.int .u64 ((leavesK ps).length : Int)) := (unhide HKJ).cell (by have := cell_of_row _ _ 1 _ _ _ (unhide HT).row; simpa using this) (by simp)
      have c2 : wr.cell? ⟨t, 2, none⟩ = some (.slice va vn vc) := (unhide HKJ).cell (by have := cell_of_row _ _ 2 _ _ _ (unhide HT).row; simpa using this) (by simp)
      have hpl : ps.length ≤ 1000000000 := by
        have h8 := len_le_sum (ps.reverse.map (·.h)); rw [← leavesK_len (unhide HT).pk.ok] at h8; simp at h8; omega
      have HCL := hide (fun w' (k : Kept [] wr w') => cloneK_any z (.slice va vn vc) ps w' (((unhide HT).rd.old (unhide HKJ)).old k) (((unhide HT).pk.old (unhide HKJ)).old k) (unhide HNL) hpl)
      refine wp_ap16 (by kernel_rfl) (by kernel_rfl) (by kernel_rfl) (by kernel_rfl) (by kernel_rfl) (by kernel_rfl) (by kernel_rfl) (by kernel_rfl) (by kernel_rfl) (by kernel_rfl) (by kernel_rfl) (by kernel_rfl) (by kernel_rfl) (by kernel_rfl) (by kernel_rfl) (by kernel_rfl) (by kernel_rfl) (by kernel_rfl) (by kernel_rfl) (by kernel_rfl) (by kernel_rfl) (by kernel_rfl) (by kernel_rfl) (by kernel_rfl) (by kernel_rfl) (by kernel_rfl) (by kernel_rfl) (by kernel_rfl) (by kernel_rfl) (by kernel_rfl) (by kernel_rfl) (by kernel_rfl) (by kernel_rfl) rfl rfl
        (.pointer (some ⟨t, 0, none⟩)) (.pointer (some ⟨t, 0, none⟩)) (.pointer (some ⟨t, 0, none⟩)) (.int .i64 z) (.pointer (some ⟨t, 0, none⟩)) (.pointer (some ⟨t, 0, none⟩)) (.pointer (some ⟨t, 1, none⟩)) (.int .u64 ((leavesK ps).length : Int)) (.pointer (some ⟨t, 0, none⟩)) (.pointer (some ⟨t, 0, none⟩)) (.pointer (some ⟨t, 2, none⟩)) (.slice va vn vc) _ _ _ _ _ _ _ _ _ _ _ _
        (fun w' => Kept [] wr w')
        (fun w' => Kept [] wr w')
        (fun u w' => (∃ a n c, u = .slice a n c ∧ w'.ownsRow wr.heap.size 87 33 (.slice a n c) ps.length (cellsK ps) ∧ (ps = [] → Value.slice a n c = .slice none 0 0)) ∧ Kept [] wr w')
        (fun u x w' => (∃ a n c t', u = .slice a n c ∧ w'.ownsRow wr.heap.size 87 33 (.slice a n c) ps.length (cellsK ps) ∧ (ps = [] → Value.slice a n c = .slice none 0 0) ∧ x = .pointer (some ⟨t', 0, none⟩) ∧ wr.heap.size ≤ t' ∧ w'.heap[t']? = some (.cells #[.int .i64 z, .int .u64 ((leavesK ps).length : Int), .slice a n c] 83 (0, 0))) ∧ Kept [] wr w')
        (fun u => .agg #[.int .i64 z, .int .u64 ((leavesK ps).length : Int), u]) (fun x => x)
        (by simp only [Act.put, List.setIfInBounds_toArray, List.set_cons_zero, List.set_cons_succ]; rfl) (by exact Or.inl ⟨by rfl, fun W' hW' => by go_simp⟩)
        (by simp only [Act.put, List.setIfInBounds_toArray, List.set_cons_zero, List.set_cons_succ]; rfl) (by exact Or.inl ⟨by rfl, fun W' hW' => by go_simp⟩)
        (by simp only [Act.put, List.setIfInBounds_toArray, List.set_cons_zero, List.set_cons_succ]; rfl) (by exact Or.inl ⟨by rfl, fun W' hW' => by go_simp⟩)
        (by simp only [Act.put, List.setIfInBounds_toArray, List.set_cons_zero, List.set_cons_succ]; rfl) (by exact Or.inl ⟨by rfl, fun W' hW' => by have h9 := hW'.cell c0 (by simp); go_simp⟩)
        (by simp only [Act.put, List.setIfInBounds_toArray, List.set_cons_zero, List.set_cons_succ]; rfl) (by exact Or.inl ⟨by rfl, fun W' hW' => by go_simp⟩)
        (by simp only [Act.put, List.setIfInBounds_toArray, List.set_cons_zero, List.set_cons_succ]; rfl) (by exact Or.inl ⟨by rfl, fun W' hW' => by go_simp⟩)
        (by simp only [Act.put, List.setIfInBounds_toArray, List.set_cons_zero, List.set_cons_succ]; rfl) (by exact Or.inl ⟨by rfl, fun W' hW' => by go_simp⟩)
        (by simp only [Act.put, List.setIfInBounds_toArray, List.set_cons_zero, List.set_cons_succ]; rfl) (by exact Or.inl ⟨by rfl, fun W' hW' => by have h9 := hW'.cell c1 (by simp); go_simp⟩)
        (by simp only [Act.put, List.setIfInBounds_toArray, List.set_cons_zero, List.set_cons_succ]; rfl) (by exact Or.inl ⟨by rfl, fun W' hW' => by go_simp⟩)
        (by simp only [Act.put, List.setIfInBounds_toArray, List.set_cons_zero, List.set_cons_succ]; rfl) (by exact Or.inl ⟨by rfl, fun W' hW' => by go_simp⟩)
        (by simp only [Act.put, List.setIfInBounds_toArray, List.set_cons_zero, List.set_cons_succ]; rfl) (by exact Or.inl ⟨by rfl, fun W' hW' => by go_simp⟩)
        (by simp only [Act.put, List.setIfInBounds_toArray, List.set_cons_zero, List.set_cons_succ]; rfl) (by exact Or.inl ⟨by rfl, fun W' hW' => by have h9 := hW'.cell c2 (by simp); go_simp⟩)
        (Kept.refl [] wr).drew
        ⟨fun w' h => h, fun u w' h => h.2, fun u x w' h => h.2⟩
        (by intro w' i K hK; refine wp_callN rfl Tryd.call41 [.slice va vn vc] rfl (unhide HCL w' i) ?_; rintro e w2 ⟨v', rfl, ho, hn, k2⟩; obtain ⟨a, n, c, rfl⟩ : ∃ a n c, v' = .slice a n c := by (rcases ho.2 with ⟨h9, _⟩ | ⟨g, cp, cur, h9, _⟩ <;> exact ⟨_, _, _, h9⟩)
            exact ⟨_, rfl, hK _ _ ⟨⟨a, n, c, rfl, owns_baseK ho i.size, hn⟩, i.trans k2 (by simp)⟩⟩)
        (by
          intro u w' hh K hK
          simp only [Act.put, List.setIfInBounds_toArray, List.set_cons_zero, List.set_cons_succ] at hK ⊢
          obtain ⟨⟨a, n, c, rfl, ho, hn⟩, i⟩ := hh
          unfold Oper.wp execOp
          go_simp
          exact hK _ _ ⟨⟨a, n, c, _, rfl, ((Kept.refl [] w').alloc _).owns ho (by simp), hn, rfl, i.size, heap_alloc_new _ _⟩, i.alloc _⟩)
        (by rintro u w' ⟨⟨a, n, c, rfl, _⟩, _⟩; exact Or.inl ⟨by rfl, fun W' hW' => by unfold execOp; go_simp⟩)
        (by rintro u x w' ⟨⟨a, n, c, t', rfl, _, _, rfl, _⟩, _⟩; exact Or.inl ⟨by rfl, fun W' hW' => by go_simp⟩)
        ?_
      rintro u x Y ⟨⟨a, n, c, t', rfl, ho, hn, rfl, ht', hrow⟩, kY⟩
      simp only [Act.put, List.setIfInBounds_toArray, List.set_cons_zero, List.set_cons_succ]
      have HO := hide ho
      have HNN := hide hn
      have HRW := hide hrow
      have HKY := hide ((unhide HKJ).trans kY (by simp))
      have HPK := hide ((unhide HT).pk.old ((unhide HKJ).trans kY (by simp)))
      have hszw := (unhide HKJ).size
      clear ho hn hrow kY HCL c0 c1 c2
      go_wp2_with fail
      have HI0 := hide (⟨by simpa using unhide HRW, unhide HO, unhide HPK, by simp, unhide HNN, unhide HKY, hszw, Nat.le_trans hszw ht', by have := (unhide HO).lt; have := lt_of_block (unhide HRW); omega⟩ : AppI z ps ls w t' wr.heap.size 0 (.slice a n c) ps Y)
      have hwid := hide (unhide HT).wid
      clear HO HNN HRW HKY HPK hpl HNL
      obtain ⟨base, hbase⟩ : ∃ base, base = wr.heap.size := ⟨_, rfl⟩
      rw [← hbase] at HI0
      clear hszw ht' hbase
      go_loopw [44] (fun t44 wq => ∃ (i : Nat) (v' : Value) (qs : List Pk), i ≤ ls.length ∧ t44 = .int .i64 i ∧ Hid (AppI z ps ls w t' base i v' qs wq)) (fun t _ => ls.length - (intOf t).toNat)
      case atStart => exact ⟨0, _, _, Nat.zero_le _, rfl, HI0⟩
      case round =>
        obtain ⟨i, v', qs, hi, rfl, HI⟩ := hrel
        by_cases hil : i < ls.length
        · have hil' : (i : Int) < ls.length := by omega
          obtain ⟨ra, rl, rc, re, r1, r2, r3, r4, r5⟩ := unhide HL
          cases re
          obtain ⟨b, o, rfl, hcell⟩ := r5 (by omega)
          have hmem : ls.getD i [] ∈ ls := by rw [List.getD_eq_getElem?_getD, List.getElem?_eq_getElem hil]; exact List.getElem_mem hil
          have HD := hide (r4 (ls.getD i []) hmem)
          have HFD := hide (List.all_eq_true.1 (unhide HAJ) _ hmem)
          have HRG := hide (fun u v hv => (unhide HI).kept.cell (hcell i hil u v hv) (by simp) : wr.rangeAt b (o + i * 32) ((ls.getD i []).map Go.Proofs.YtbljofojeagdkaaDoor.u8))
          clear hcell r4 r5 hmem
          obtain ⟨d, hd⟩ : ∃ d, ls.getD i [] = d := ⟨_, rfl⟩
          have HDD := hide hd
          rw [hd] at HD HRG HFD
          clear hd
          have hdl := (unhide HD).1
          have HSZ := hide (by rw [brow_size, hdl]; exact Tryd.size_dig : (Tryd.prog.info? 23).map (·.size) = some (brow d).size)
          have HNW := hide (setRow_heap (wr.alloc (.cells (zb 32) 23)) wr.heap.size (zb 32) (brow d) 23 (0, 0) (heap_alloc_new _ _))
          have HKN := hide (((Kept.refl [] wr).alloc (.cells (zb 32) 23)).setRow (g := wr.heap.size) (Or.inr (Nat.le_refl _)) (brow d))
          go_wp2_with (first
            | (refine wpList_load_mid rfl 23 (.tmp 46) rfl b (o + i * 32) rfl (d.map Go.Proofs.YtbljofojeagdkaaDoor.u8) _ (unhide HRG) Tryd.underlying23 rfl (by rw [List.length_map, hdl]; exact Tryd.size_dig) ?_)
            | (rw [zb32]; refine wpList_store_row rfl 23 (.tmp 10) _ rfl wr.heap.size (brow d) rfl rfl _ (zb 32) (heap_alloc_new _ _) (unhide HSZ) (by rw [zb_size, brow_size, hdl]) (brow_one _) ?_)
            | (refine wpList_load_row rfl 23 (.tmp 10) rfl wr.heap.size rfl _ (brow d) (0, 0) _ (unhide HNW) Tryd.underlying23 rfl (unhide HSZ) ?_))
          obtain ⟨W, hW⟩ : ∃ W, (wr.alloc (.cells (zb 32) 23)).setRow wr.heap.size (brow d) = W := ⟨_, rfl⟩
          rw [hW] at HKN ⊢
          clear hW HNW
          refine Calls.mono (push_any z t' ((leavesK ps).length + i) base v' qs d W ((unhide HKN).heap (unhide HI).row (by simp)) ((unhide HKN).owns (unhide HI).own (by simp)) ((unhide HI).pk.old (unhide HKN)) ((unhide HI).len hi) (by omega) (Nat.le_trans (unhide HI).br (unhide HKN).size) (unhide hwid) ((unhide HI).far (unhide HTB) (unhide H6B)) ⟨hdl, (unhide HD).2⟩ (unhide HFD) ((unhide HTB).kept ((unhide HI).kept.trans (unhide HKN) (by simp)) (by simp) (by simp)) ((unhide H6B).kept ((unhide HI).kept.trans (unhide HKN) (by simp)))) ?_
          rintro e w4 ⟨rfl, hpd⟩
          obtain ⟨v2, rs, hi2⟩ := (unhide HI).step hil (unhide HKN) (by rw [unhide HDD]; exact hpd)
          have HI2 := hide hi2
          clear hpd hi2 HI HKN
          go_wp2_with fail
          refine ⟨⟨i + 1, _, _, by omega, by go_num, HI2⟩, ?_⟩
          simp [intOf]; omega
        · have hil' : ¬ (i : Int) < ls.length := by omega
          have hie : i = ls.length := by omega
          subst hie
          have HF := hide ((unhide HI).fin (unhide hwid))
          go_wp2_with fail
          exact bodyPost_ret (results_tmp2 rfl _ _ _) rfl ⟨fun _ => ⟨t', v', qs, rfl, (unhide HI).bt, (unhide HF).1, (unhide HF).2, (unhide HI).nil⟩, fun h => absurd h (by rw [unhide HAJ]; decide), (unhide HI).kept⟩

end Go.Proofs.YtbljofojeagdkaaDoor
namespace Go.Proofs.YtbljofojeagdkaaDoor
open Go.RowKit Go.BigFrame
set_option linter.unusedVariables false
set_option linter.unusedSimpArgs false

/-- What the statements' tree answers. -/
def TrD (z : Int) (ls : List (List Nat)) (w : World) (e : Ending) (w' : World) : Prop :=
  (widthB z = false → e = .returned (.tuple #[.pointer none, .slice none 0 0, .bool false]) ∧ Kept [] w w') ∧
  (widthB z = true → ∃ t v qs u, e = .returned (.tuple #[.pointer (some ⟨t, 0, none⟩), u, .bool true]) ∧ TreeAt z w' t v qs ∧ leavesK qs = ls.map (cutL z.toNat) ∧ OwD w w' u (ls.map (cutL z.toNat)))
theorem cut_all {k : Nat} (h1 : 1 ≤ k) (h2 : k ≤ 32) {ls : List (List Nat)} (h : ∀ d ∈ ls, Dg d) : (ls.map (cutL k)).all (formB (k : Int)) = true := by
  rw [List.all_eq_true]
  intro x hx
  obtain ⟨d, hd, rfl⟩ := List.mem_map.1 hx
  exact cut_form h1 h2 (h d hd)

end Go.Proofs.YtbljofojeagdkaaDoor
namespace Go.Proofs.YtbljofojeagdkaaDoor
open Go.RowKit Go.BigFrame
set_option linter.unusedVariables false
set_option linter.unusedSimpArgs false

theorem RdD.flat {w : World} {g : Nat} {ds : List (List Nat)} {t : TypeId} {fr : Nat × Nat} (h : w.heap[g]? = some (.cells (flatD ds).toArray t fr)) (hd : ∀ d ∈ ds, Dg d) (n : Nat) (hn : ds.length = n) (hs : n ≤ 1000000) : RdD w (.slice (some ⟨g, 0, none⟩) n n) ds := by
  subst hn
  refine ⟨_, _, _, rfl, rfl, Nat.le_refl _, by omega, hd, fun _ => ⟨g, 0, rfl, fun i hi => ?_⟩⟩
  intro j v hv
  have hj : j < 32 := by
    have := (List.getElem?_eq_some_iff.1 hv).1
    rw [List.length_map, List.getD_eq_getElem?_getD, List.getElem?_eq_getElem hi] at this
    rw [← (hd ds[i] (List.getElem_mem hi)).1]; exact this
  have hq := flatD_at (fun d hd' => (hd d hd').1) i hi j hj
  rw [Nat.zero_add, cell_of_row _ _ _ _ _ _ h, List.getElem?_toArray, hq]
  exact hv
theorem RdD.range {w : World} {ao : Option Addr} {n c : Nat} {ds : List (List Nat)} (h : RdD w (.slice ao n c) ds) (hp : 0 < ds.length) : ∃ b o, ao = some ⟨b, o, none⟩ ∧ ∀ i, i < ds.length → w.rangeAt b (o + i * 32) ((ds.getD i []).map u8) := by
  obtain ⟨_, _, _, e, h1, h2, h3, h4, h5⟩ := h
  cases e
  obtain ⟨b, o, e, hc⟩ := h5 (by omega)
  exact ⟨b, o, e, fun i hi => hc i (by omega)⟩

def e1 : List Nat := 1 :: List.replicate 31 0
def e2 : List Nat := 2 :: List.replicate 31 0
def e3 : List Nat := 3 :: List.replicate 31 0
theorem e_dg : ∀ d ∈ [e1, e2, e3], Dg d := by
  intro d hd
  simp only [List.mem_cons, List.not_mem_nil, or_false] at hd
  rcases hd with rfl | rfl | rfl <;> exact ⟨rfl, by decide⟩
theorem e_cut : [e1, e2, e3].map (cutL 4) = [e1, e2, e3] := by decide +kernel
theorem e_path : pathF 2 64 0 3 = [(0, 2)] := by decide +kernel
theorem e_seam : smL 1 3 = [(1, 2), (2, 3)] := by decide +kernel
theorem e_in : inD 4 [e1, e2, e3] 2 3 = [nodS 4 e1 e2] := by
  unfold inD
  rw [if_neg (by decide), e_path]
  unfold rgL
  rw [List.map_cons, List.map_nil]
  unfold rgD
  rw [if_neg (by decide), rngD_cut (by decide) (by decide)]
  rfl
theorem e_cs : csD 4 [e1, e2, e3] 1 3 = [e2, e3] := by
  unfold csD
  rw [if_neg (by decide), e_seam]
  rfl

end Go.Proofs.YtbljofojeagdkaaDoor
namespace Go.Proofs.YtbljofojeagdkaaDoor
open Go.RowKit Go.BigFrame
set_option linter.unusedVariables false
set_option linter.unusedSimpArgs false

/-- What law 12's tree answers. -/
def TrH (z : Int) (w : World) (e : Ending) (w' : World) : Prop :=
  (widthB z = false ∧ e = .returned (.tuple #[.pointer none, .slice none 0 0, .bool false]) ∧ Kept [] w w') ∨
  (widthB z = true ∧ ∃ t v qs u, e = .returned (.tuple #[.pointer (some ⟨t, 0, none⟩), u, .bool true]) ∧ TreeAt z w' t v qs ∧ OwD w w' u (leavesK qs) ∧ LvO z (leavesK qs) ∧ (leavesK qs).length ≤ 300)
theorem all_snocH {α : Type} {p : α → Bool} {l : List α} {x : α} (h : l.all p = true) (hx : p x = true) : (l ++ [x]).all p = true := by
  rw [List.all_append, h]
  simp [hx]

set_option maxRecDepth 100000 in
set_option maxHeartbeats 2000000 in
theorem treeH_any (z : Int) (lv : Value) (ls : List (List Nat)) (w : World) (hz : -9223372036854775808 ≤ z ∧ z ≤ 9223372036854775807) (hl : RdD w lv ls) (hN : ls.length ≤ 1048576) (hT : Tabs w) (h6 : Tab6 w) :
    Calls Tryd.prog 17 #[.int .i64 z, lv] w (TrH z w) := by
  have HTB := hide hT
  have H6 := hide h6
  have HL := hide hl
  have HDG := hide (fun d hd => hl.dg (d := d) hd)
  obtain ⟨la, ll, lc, rfl, l1, l2, l3, -⟩ := hl
  subst l1
  clear hT h6
  go_enter Tryd.func17, Tryd.ntmps17
  go_wp2_with fail
  go_loopw [7, 15] (fun t7 t15 wr => ∃ (i : Nat) (ds : List (List Nat)), i ≤ ls.length ∧ t15 = .int .i64 (i : Int) ∧ Hid (OwD w wr t7 ds) ∧ Hid (ds.length ≤ 300) ∧ Hid (ds.all (formB z) = true)) (fun _ t _ => ls.length - (intOf t).toNat)
  case atStart => exact ⟨0, [], Nat.zero_le _, rfl, hide (OwD.nil _), hide (by simp), hide rfl⟩
  case round =>
    obtain ⟨i, ds, hi, rfl, HO, HLN, HF⟩ := hrel
    by_cases hlt : i < ls.length
    · have hlt' : (i : Int) < (ls.length : Int) := by omega
      obtain ⟨b, o, hla, hc⟩ := ((unhide HL).old (unhide HO).kept).range (by omega)
      subst hla
      have HC := hide (hc i hlt)
      have HDi := hide (unhide HDG (ls.getD i []) (by rw [List.getD_eq_getElem?_getD, List.getElem?_eq_getElem hlt]; exact List.getElem_mem hlt))
      generalize ls.getD i [] = d at HC HDi
      have hdl := (unhide HDi).1
      obtain ⟨ua, ucap, rfl⟩ := owns_form (unhide HO).own
      have ia : ¬ (i : Int) < 0 := by omega
      have ib : ¬ (ls.length : Int) ≤ i := by omega
      have HN0 := hide (cell_new wr d)
      have HK0 := hide (kept_old wr d)
      obtain ⟨wb, hwb⟩ : ∃ wb, (wr.alloc (.cells (zb 32) 23)).setRow wr.heap.size (brow d) = wb := ⟨_, rfl⟩
      rw [hwb] at HN0 HK0
      have HWBE := hide hwb
      have HOB := hide ((unhide HO).pass (unhide HK0))
      clear hwb hc
      by_cases h300 : ds.length < 300
      · have h300' : (ds.length : Int) < 300 := by omega
        have HFM := hide (form_any z d wb hz hdl (unhide HDi).2)
        go_wp2_with (first
          | (refine wpList_load_mid rfl 23 _ rfl b (o + i * 32) rfl (d.map Go.Proofs.YtbljofojeagdkaaDoor.u8) _ (unhide HC) Tryd.underlying23 rfl (by rw [List.length_map, hdl]; exact Tryd.size_dig) ?_)
          | (rw [zb32]; refine wpList_store_row rfl 23 (.tmp 9) _ rfl wr.heap.size (brow d) rfl rfl _ (zb 32) (heap_alloc_new _ _) (Tryd.szD hdl) (by rw [zb_size, brow_size, hdl]) (brow_one _) ?_; rw [unhide HWBE])
          | (refine wpList_load_rowG rfl 23 (.tmp 9) rfl wr.heap.size rfl _ (brow d) (0, 0) _ (unhide HN0) Tryd.underlying23 rfl (Tryd.szD hdl) ?_))
        refine (unhide HFM).mono ?_
        rintro e wc ⟨rfl, kc⟩
        have HNc := hide (kc.heap (unhide HN0) (by simp))
        have HOc := hide ((unhide HOB).pass kc)
        clear kc HFM HOB HN0
        cases hfd : formB z d with
        | false =>
          go_wp2_with fail
          go_roundw
          case rel => exact ⟨i + 1, ds, by omega, by simp, HOc, HLN, HF⟩
          case measure => simp [intOf]; omega
        | true =>
          have HFD := hide hfd
          have HOC := hide ((unhide HOc).pass ((Kept.refl [] wc).alloc (.cells (brow d) 23)))
          have HNC := hide (heap_alloc_new wc (.cells (brow d) 23))
          have HL1 := hide (by omega : ds.length + 1 ≤ 300)
          clear hfd
          go_wp2_with (first
            | (refine wpList_load_mid rfl 23 _ rfl wr.heap.size 0 rfl (d.map Go.Proofs.YtbljofojeagdkaaDoor.u8) _ (range_row (unhide HNc)) Tryd.underlying23 rfl (by rw [List.length_map, hdl]; exact Tryd.size_dig) ?_)
            | (at_builtin; rw [zb32, one_digP d hdl]; refine wpList_appendD rfl _ _ rfl rfl (wc.alloc (.cells (brow d) 23)) w.heap.size (.slice ua ds.length ucap) ds [d] (some ⟨wc.heap.size, 0, none⟩) 1 1 (unhide HOC).own (RdD.oneP (unhide HNC) (unhide HDi)) (by have := unhide HL1; simp; omega) (unhide HOC).kept.size rfl rfl ?_; intro ao3 cap3 w3 HO3 HG3; have HO4 := hide ((unhide HOC).push (unhide HDi) (unhide HO3) (unhide HG3)); clear HO3 HG3))
          go_roundw
          case rel => exact ⟨i + 1, ds ++ [d], by omega, by simp, HO4, hide (by rw [List.length_append]; exact unhide HL1), hide (all_snocH (unhide HF) (unhide HFD))⟩
          case measure => simp [intOf]; omega
      · have h300' : ¬ (ds.length : Int) < 300 := by omega
        go_wp2_with (first
          | (refine wpList_load_mid rfl 23 _ rfl b (o + i * 32) rfl (d.map Go.Proofs.YtbljofojeagdkaaDoor.u8) _ (unhide HC) Tryd.underlying23 rfl (by rw [List.length_map, hdl]; exact Tryd.size_dig) ?_)
          | (rw [zb32]; refine wpList_store_row rfl 23 (.tmp 9) _ rfl wr.heap.size (brow d) rfl rfl _ (zb 32) (heap_alloc_new _ _) (Tryd.szD hdl) (by rw [zb_size, brow_size, hdl]) (brow_one _) ?_; rw [unhide HWBE]))
        go_roundw
        case rel => exact ⟨i + 1, ds, by omega, by simp, HOB, HLN, HF⟩
        case measure => simp [intOf]; omega
    · have hlt' : ¬ (i : Int) < (ls.length : Int) := by omega
      cases hwb : widthB z with
      | false =>
        have HWB := hide hwb
        clear hwb
        go_wp2_with fail
        refine (newT_bad z wr (unhide HWB)).mono ?_
        rintro e w2 ⟨rfl, k2⟩
        have HK2 := hide ((unhide HO).kept.trans k2 (by simp))
        clear k2
        go_wp2_with fail
        exact ⟨rfl, _, results_tmp3 rfl _ _ _, Or.inl ⟨unhide HWB, rfl, unhide HK2⟩⟩
      | true =>
        have HWB := hide hwb
        clear hwb
        go_wp2_with fail
        refine (newT_any z wr (unhide HWB)).mono ?_
        rintro e w2 ⟨t0, rfl, _, tr2, k2⟩
        have HT2 := hide tr2
        have HO2 := hide ((unhide HO).pass k2)
        clear tr2 k2 HO
        go_wp2_with fail
        refine (appendT_any z t0 (.slice none 0 0) u7 [] ds w2 (unhide HT2) (fun _ => rfl) (unhide HO2).rd (by have := unhide HLN; simp [leavesK]; omega) ((unhide HTB).kept (unhide HO2).kept (by simp) (by simp)) ((unhide H6).kept (unhide HO2).kept)).mono ?_
        rintro e w3 ⟨hg1, _, k3⟩
        obtain ⟨t3, v3, qs3, rfl, _, tr3, lv3, _⟩ := hg1 (unhide HF)
        have HT3 := hide tr3
        have HL3 := hide (by rw [lv3]; simp [leavesK] : leavesK qs3 = ds)
        have HO3 := hide ((unhide HO2).pass k3)
        clear tr3 lv3 k3 HO2 hg1
        go_wp2_with fail
        exact ⟨rfl, _, results_tmp3 rfl _ _ _, Or.inr ⟨unhide HWB, t3, v3, qs3, u7, rfl, unhide HT3, by rw [unhide HL3]; exact unhide HO3, by rw [unhide HL3]; exact ⟨unhide HWB, (unhide HO3).dg, fun d hd => List.all_eq_true.1 (unhide HF) d hd⟩, by rw [unhide HL3]; exact unhide HLN⟩⟩
end Go.Proofs.YtbljofojeagdkaaDoor
namespace Go.Proofs.YtbljofojeagdkaaDoor
open Go.RowKit Go.BigFrame
set_option linter.unusedVariables false
set_option linter.unusedSimpArgs false

theorem wpList_load_midG {P : Program} {ops : Array Oper} {rest : List Oper} {op : Oper} {a : Act} {w : World} {Q : Exit → Act → World → Prop} (hw : Region.wanted op (yielded ops a.tmps) = true) (ty : TypeId) (x : Operand) (ho : op.op = .load ty x)
    (b o : Nat) (hx : a.eval x = .pointer (some ⟨b, o, none⟩)) (cs : List Value) (d : TypeDesc) (hc : w.rangeAt b o cs)
    (hu : P.underlying ty = some d) (hd : d.isRow = true) (hi : (P.info? ty).map (·.size) = some cs.length)
    (h : wpList P ops Q rest (a.put op.dst (.agg cs.toArray)) w) : wpList P ops Q (op :: rest) a w :=
  wpList_want hw fun _ hK => wp_load_mid ty x ho b o hx cs d hc hu hd hi (hK _ _ h)
def dX : List Nat := 1 :: 2 :: 3 :: 4 :: List.replicate 28 0
def dY : List Nat := 5 :: 6 :: 7 :: 8 :: List.replicate 28 0
def dXY : List Nat := 62 :: 68 :: 92 :: 222 :: List.replicate 28 0
def dYX : List Nat := 40 :: 116 :: 230 :: 72 :: List.replicate 28 0
theorem dX_dg : Dg dX := ⟨rfl, by decide⟩
theorem dY_dg : Dg dY := ⟨rfl, by decide⟩
theorem nod_xy : nodS 4 dX dY = dXY := by
  have e0 : nodeB 4 dX dY = [1, 1, 2, 3, 4, 5, 6, 7, 8] := by decide
  unfold nodS sumD
  rw [e0, if_pos (by decide)]
  unfold hash hashW
  have e : [1, 1, 2, 3, 4, 5, 6, 7, 8] ++ pad [1, 1, 2, 3, 4, 5, 6, 7, 8].length = [1, 1, 2, 3, 4, 5, 6, 7, 8, 128] ++ List.replicate 53 0 ++ [72] := by decide
  rw [e, chain_step (by decide), chain_short (by decide), ← evC_eq]
  decide +kernel
theorem nod_yx : nodS 4 dY dX = dYX := by
  have e0 : nodeB 4 dY dX = [1, 5, 6, 7, 8, 1, 2, 3, 4] := by decide
  unfold nodS sumD
  rw [e0, if_pos (by decide)]
  unfold hash hashW
  have e : [1, 5, 6, 7, 8, 1, 2, 3, 4] ++ pad [1, 5, 6, 7, 8, 1, 2, 3, 4].length = [1, 5, 6, 7, 8, 1, 2, 3, 4, 128] ++ List.replicate 53 0 ++ [72] := by decide
  rw [e, chain_step (by decide), chain_short (by decide), ← evC_eq]
  decide +kernel
theorem spl2 : spl 2 = 1 := by decide
theorem form4 : formedE 4 [dX, dY] = 0 := by decide
theorem aw_root1 : rootE 4 dX 1 2 [dY] = 0 ∧ rootD 4 dX 1 2 [dY] = dYX := by
  have h := rootE_c (z := 4) (leaf := dX) (i := 1) (n := 2) (p := [dY]) form4 (by decide)
  have e : clD 4 dX [dY].reverse 1 2 = some dYX := by
    show clD 4 dX [dY] 1 2 = _
    simp [clD, spl2, nod_yx]
  rw [e] at h
  exact h
theorem aw_root0 : rootE 4 dX 0 2 [dY] = 0 ∧ rootD 4 dX 0 2 [dY] = dXY := by
  have h := rootE_c (z := 4) (leaf := dX) (i := 0) (n := 2) (p := [dY]) form4 (by decide)
  have e : clD 4 dX [dY].reverse 0 2 = some dXY := by
    show clD 4 dX [dY] 0 2 = _
    simp [clD, spl2, nod_xy]
  rw [e] at h
  exact h
theorem aw_roots : rootsE 4 dX 1 2 [dY] = 0 ∧ rootsD 4 dX 1 2 [dY] = (dX, dXY) := by
  have h := rootsE_c (z := 4) (old := dX) (m := 1) (n := 2) (p := [dY]) form4 (by decide)
  have e : twD 4 dX [dY].reverse 1 2 true = some (dX, dXY) := by
    show twD 4 dX [dY] 1 2 true = _
    simp [twD, spl2, nod_xy]
  rw [e] at h
  exact h
theorem aw_inc : incE 4 dX 1 2 [dY] dXY = 10 := by
  unfold incE
  rw [show formedE 4 [dX, dXY, dY] = 0 by decide, aw_root1.1, aw_root1.2]
  decide

set_option maxRecDepth 100000 in
set_option maxHeartbeats 2000000 in
theorem mawake_any (w : World) (hT : Tabs w) :
    Calls Tryd.prog 6 #[] w fun e w' => e = .returned (.bool true) ∧ Kept [] w w' := by
  have HT := hide hT
  clear hT
  have hyl : dY.length = 32 := rfl
  go_enter Tryd.func6, Tryd.ntmps6
  have HA0 := hide (((Kept.refl [] (w.alloc (.cells (zb 32) 23))).alloc (.cells (zb 32) 23)).heap (heap_alloc_new w (.cells (zb 32) 23)) (by simp))
  have HA1 := hide (alloc_at w (.cells (zb 32) 23) (.cells (zb 32) 23))
  obtain ⟨W0, hW0⟩ : ∃ W0, (w.alloc (.cells (zb 32) 23)).alloc (.cells (zb 32) 23) = W0 := ⟨_, rfl⟩
  have HK0 := hide (by rw [← hW0]; exact (((Kept.refl [] w).alloc (.cells (zb 32) 23)).alloc (.cells (zb 32) 23)) : Kept [] w W0)
  rw [hW0] at HA0 HA1
  have hsz : W0.heap.size = w.heap.size + 1 + 1 := by rw [← hW0]; simp
  have HB1 := hide ((setRow_other W0 w.heap.size (w.heap.size + 1) (brow dX) (by omega)).trans (unhide HA1))
  have HX1 := hide ((setRow_other (W0.setRow w.heap.size (brow dX)) (w.heap.size + 1) w.heap.size (brow dY) (by omega)).trans (setRow_heap W0 _ _ (brow dX) _ _ (unhide HA0)))
  have HY1 := hide (setRow_heap (W0.setRow w.heap.size (brow dX)) _ _ (brow dY) _ _ (unhide HB1))
  have HK1 := hide (((unhide HK0).setRow (g := w.heap.size) (Or.inr (by omega)) (brow dX)).setRow (g := w.heap.size + 1) (Or.inr (by omega)) (brow dY))
  go_wp2_with (first
    | (refine wpList_build_as rfl 23 #[(0, .const (.int .u8 1)), (1, .const (.int .u8 2)), (2, .const (.int .u8 3)), (3, .const (.int .u8 4))] rfl (brow dX) (by kernel_rfl) ?_)
    | (refine wpList_build_as rfl 23 #[(0, .const (.int .u8 5)), (1, .const (.int .u8 6)), (2, .const (.int .u8 7)), (3, .const (.int .u8 8))] rfl (brow dY) (by kernel_rfl) ?_)
    | (rw [zb32, hW0]; refine wpList_store_row rfl 23 _ _ rfl w.heap.size (brow dX) rfl rfl _ (zb 32) (unhide HA0) (by kernel_rfl) (by kernel_rfl) (brow_one _) ?_)
    | (refine wpList_store_row rfl 23 _ _ rfl (w.heap.size + 1) (brow dY) rfl rfl _ (zb 32) (unhide HB1) (by kernel_rfl) (by kernel_rfl) (brow_one _) ?_)
    | (refine wpList_load_row rfl 23 _ rfl w.heap.size rfl _ (brow dX) (0, 0) _ (unhide HX1) Tryd.underlying23 rfl (by kernel_rfl) ?_)
    | (refine wpList_load_mid rfl 23 _ rfl (w.heap.size + 1) 0 rfl (dY.map u8) _ (range_row (unhide HY1)) Tryd.underlying23 rfl (by kernel_rfl) ?_))
  rw [zb32, one_dig dY rfl]
  obtain ⟨W1, hW1⟩ : ∃ W1, (W0.setRow w.heap.size (brow dX)).setRow (w.heap.size + 1) (brow dY) = W1 := ⟨_, rfl⟩
  have hs1 : w.heap.size + 1 + 1 = W1.heap.size := by rw [← hW1, ← hsz]; simp
  rw [hW1] at HX1 HY1 HK1
  rw [hW1, hs1]
  clear hW1 hW0 HA0 HA1 HB1 HK0
  have kc2 := (Kept.refl [] W1).alloc (.cells (brow dY) 23)
  refine Calls.mono (rootOf_any 4 dX 1 2 _ [dY] _ (by decide) dX_dg (by decide) (by decide) (RdD.one (heap_alloc_new W1 _) dY_dg) ((unhide HT).k ((unhide HK1).trans kc2 (by simp)))) ?_
  rintro e w2 ⟨rfl, k2⟩
  rw [aw_root1.1, aw_root1.2]
  have kk2 := kc2.trans k2 (by simp)
  have HK2 := hide ((unhide HK1).trans kk2 (by simp))
  have HX2 := hide (kk2.heap (unhide HX1) (by simp))
  have HY2 := hide (kk2.heap (unhide HY1) (by simp))
  clear kc2 k2 kk2 HX1 HY1
  have kd := ((Kept.refl [] w2).alloc (.cells (zb 32) 23)).setRow (g := w2.heap.size) (Or.inr (Nat.le_refl _)) (brow dYX)
  have HDd := hide (setRow_heap (w2.alloc (.cells (zb 32) 23)) w2.heap.size (zb 32) (brow dYX) 23 (0, 0) (heap_alloc_new _ _))
  have HX3 := hide (kd.heap (unhide HX2) (by simp))
  have HY3 := hide (kd.heap (unhide HY2) (by simp))
  have HK3 := hide ((unhide HK2).trans kd (by simp))
  clear kd HX2 HY2
  go_wp2_with (first
    | (rw [zb32]; refine wpList_store_row rfl 23 _ _ rfl w2.heap.size (brow dYX) rfl rfl _ (zb 32) (heap_alloc_new _ _) (by kernel_rfl) (by kernel_rfl) (brow_one _) ?_)
    | (refine wpList_load_row rfl 23 _ rfl w.heap.size rfl _ (brow dX) (0, 0) _ (unhide HX3) Tryd.underlying23 rfl (by kernel_rfl) ?_)
    | (refine wpList_load_mid rfl 23 _ rfl (w.heap.size + 1) 0 rfl (dY.map u8) _ (range_row (unhide HY3)) Tryd.underlying23 rfl (by kernel_rfl) ?_))
  rw [zb32, one_dig dY rfl]
  obtain ⟨W3, hW3⟩ : ∃ W3, (w2.alloc (.cells (zb 32) 23)).setRow w2.heap.size (brow dYX) = W3 := ⟨_, rfl⟩
  have hs3 : w2.heap.size + 1 = W3.heap.size := by rw [← hW3]; simp
  rw [hW3] at HX3 HY3 HK3 HDd
  rw [hW3, hs3]
  clear hW3
  have kc4 := (Kept.refl [] W3).alloc (.cells (brow dY) 23)
  refine Calls.mono (rootsOf_any 4 1 2 dX _ [dY] _ (by decide) dX_dg (by decide) (by decide) (RdD.one (heap_alloc_new W3 _) dY_dg) ((unhide HT).k ((unhide HK3).trans kc4 (by simp)))) ?_
  rintro e w4 ⟨rfl, k4⟩
  rw [aw_roots.1, aw_roots.2]
  have kk4 := kc4.trans k4 (by simp)
  have HK4 := hide ((unhide HK3).trans kk4 (by simp))
  have HX4 := hide (kk4.heap (unhide HX3) (by simp))
  have HY4 := hide (kk4.heap (unhide HY3) (by simp))
  have HD4 := hide (kk4.heap (unhide HDd) (by simp))
  clear kc4 k4 kk4 HX3 HY3 HDd
  have ka := (((Kept.refl [] w4).alloc (.cells (zb 32) 23)).alloc (.cells (zb 32) 23))
  have kab := (ka.setRow (g := w4.heap.size) (Or.inr (Nat.le_refl _)) (brow dX)).setRow (g := w4.heap.size + 1) (Or.inr (by omega)) (brow dXY)
  have HA0 := hide (((Kept.refl [] (w4.alloc (.cells (zb 32) 23))).alloc (.cells (zb 32) 23)).heap (heap_alloc_new w4 (.cells (zb 32) 23)) (by simp))
  have HB0 := hide ((setRow_other ((w4.alloc (.cells (zb 32) 23)).alloc (.cells (zb 32) 23)) w4.heap.size (w4.heap.size + 1) (brow dX) (by omega)).trans (alloc_at w4 (.cells (zb 32) 23) (.cells (zb 32) 23)))
  have HA5 := hide ((setRow_other (((w4.alloc (.cells (zb 32) 23)).alloc (.cells (zb 32) 23)).setRow w4.heap.size (brow dX)) (w4.heap.size + 1) w4.heap.size (brow dXY) (by omega)).trans (setRow_heap _ _ _ (brow dX) _ _ (unhide HA0)))
  have HB5 := hide (setRow_heap (((w4.alloc (.cells (zb 32) 23)).alloc (.cells (zb 32) 23)).setRow w4.heap.size (brow dX)) _ _ (brow dXY) _ _ (unhide HB0))
  have HX5 := hide (kab.heap (unhide HX4) (by simp))
  have HY5 := hide (kab.heap (unhide HY4) (by simp))
  have HD5 := hide (kab.heap (unhide HD4) (by simp))
  have HK5 := hide ((unhide HK4).trans kab (by simp))
  clear ka kab HX4 HY4 HD4
  go_wp2_with (first
    | (rw [zb32]; refine wpList_store_row rfl 23 _ _ rfl w4.heap.size (brow dX) rfl rfl _ (zb 32) (unhide HA0) (by kernel_rfl) (by kernel_rfl) (brow_one _) ?_)
    | (refine wpList_store_row rfl 23 _ _ rfl (w4.heap.size + 1) (brow dXY) rfl rfl _ (zb 32) (unhide HB0) (by kernel_rfl) (by kernel_rfl) (brow_one _) ?_)
    | (refine wpList_load_row rfl 23 _ rfl w.heap.size rfl _ (brow dX) (0, 0) _ (unhide HX5) Tryd.underlying23 rfl (by kernel_rfl) ?_)
    | (refine wpList_load_mid rfl 23 _ rfl (w.heap.size + 1) 0 rfl (dY.map u8) _ (range_row (unhide HY5)) Tryd.underlying23 rfl (by kernel_rfl) ?_))
  rw [zb32, one_dig dY rfl]
  obtain ⟨W5, hW5⟩ : ∃ W5, (((w4.alloc (.cells (zb 32) 23)).alloc (.cells (zb 32) 23)).setRow w4.heap.size (brow dX)).setRow (w4.heap.size + 1) (brow dXY) = W5 := ⟨_, rfl⟩
  have hs5 : w4.heap.size + 1 + 1 = W5.heap.size := by rw [← hW5]; simp
  rw [hW5] at HX5 HY5 HK5 HD5 HA5 HB5
  rw [hW5, hs5]
  clear hW5 HA0 HB0
  have kc6 := (Kept.refl [] W5).alloc (.cells (brow dY) 23)
  refine Calls.mono (docRootOf_any 4 dX 1 2 _ [dY] _ (by decide) dX_dg (by decide) (by decide) (RdD.one (heap_alloc_new W5 _) dY_dg) (by decide)) ?_
  rintro e w6 ⟨rfl, k6⟩
  rw [aw_root1.1, aw_root1.2]
  have kk6 := kc6.trans k6 (by simp)
  have HK6 := hide ((unhide HK5).trans kk6 (by simp))
  have HX6 := hide (kk6.heap (unhide HX5) (by simp))
  have HY6 := hide (kk6.heap (unhide HY5) (by simp))
  have HD6 := hide (kk6.heap (unhide HD5) (by simp))
  have HA6 := hide (kk6.heap (unhide HA5) (by simp))
  have HB6 := hide (kk6.heap (unhide HB5) (by simp))
  clear kc6 k6 kk6 HX5 HY5 HD5 HA5 HB5
  have kk7 := ((Kept.refl [] w6).alloc (.cells (zb 32) 23)).setRow (g := w6.heap.size) (Or.inr (Nat.le_refl _)) (brow dYX)
  have HS7 := hide (setRow_heap (w6.alloc (.cells (zb 32) 23)) w6.heap.size (zb 32) (brow dYX) 23 (0, 0) (heap_alloc_new _ _))
  have HK7 := hide ((unhide HK6).trans kk7 (by simp))
  have HX7 := hide (kk7.heap (unhide HX6) (by simp))
  have HY7 := hide (kk7.heap (unhide HY6) (by simp))
  have HD7 := hide (kk7.heap (unhide HD6) (by simp))
  have HA7 := hide (kk7.heap (unhide HA6) (by simp))
  have HB7 := hide (kk7.heap (unhide HB6) (by simp))
  clear kk7 HX6 HY6 HD6 HA6 HB6
  go_wp2_with (first
    | (rw [zb32]; refine wpList_store_row rfl 23 _ _ rfl w6.heap.size (brow dYX) rfl rfl _ (zb 32) (heap_alloc_new _ _) (by kernel_rfl) (by kernel_rfl) (brow_one _) ?_)
    | (refine wpList_load_row rfl 23 _ rfl w.heap.size rfl _ (brow dX) (0, 0) _ (unhide HX7) Tryd.underlying23 rfl (by kernel_rfl) ?_)
    | (refine wpList_load_mid rfl 23 _ rfl (w.heap.size + 1) 0 rfl (dY.map u8) _ (range_row (unhide HY7)) Tryd.underlying23 rfl (by kernel_rfl) ?_))
  rw [zb32, one_dig dY rfl]
  obtain ⟨W7, hW7⟩ : ∃ W7, (w6.alloc (.cells (zb 32) 23)).setRow w6.heap.size (brow dYX) = W7 := ⟨_, rfl⟩
  have hs7 : w6.heap.size + 1 = W7.heap.size := by rw [← hW7]; simp
  rw [hW7] at HK7 HX7 HY7 HD7 HA7 HB7 HS7
  rw [hW7, hs7]
  clear hW7
  have kc8 := (Kept.refl [] W7).alloc (.cells (brow dY) 23)
  refine Calls.mono (docRootOf_any 4 dX 0 2 _ [dY] _ (by decide) dX_dg (by decide) (by decide) (RdD.one (heap_alloc_new W7 _) dY_dg) (by decide)) ?_
  rintro e w8 ⟨rfl, k8⟩
  rw [aw_root0.1, aw_root0.2]
  have kk8 := kc8.trans k8 (by simp)
  have HK8 := hide ((unhide HK7).trans kk8 (by simp))
  have HX8 := hide (kk8.heap (unhide HX7) (by simp))
  have HY8 := hide (kk8.heap (unhide HY7) (by simp))
  have HD8 := hide (kk8.heap (unhide HD7) (by simp))
  have HA8 := hide (kk8.heap (unhide HA7) (by simp))
  have HB8 := hide (kk8.heap (unhide HB7) (by simp))
  have HS8 := hide (kk8.heap (unhide HS7) (by simp))
  clear kc8 k8 kk8 HX7 HY7 HD7 HA7 HB7 HS7
  have kk9 := ((Kept.refl [] w8).alloc (.cells (zb 32) 23)).setRow (g := w8.heap.size) (Or.inr (Nat.le_refl _)) (brow dXY)
  have HT9 := hide (setRow_heap (w8.alloc (.cells (zb 32) 23)) w8.heap.size (zb 32) (brow dXY) 23 (0, 0) (heap_alloc_new _ _))
  have HK9 := hide ((unhide HK8).trans kk9 (by simp))
  have HX9 := hide (kk9.heap (unhide HX8) (by simp))
  have HY9 := hide (kk9.heap (unhide HY8) (by simp))
  have HD9 := hide (kk9.heap (unhide HD8) (by simp))
  have HA9 := hide (kk9.heap (unhide HA8) (by simp))
  have HB9 := hide (kk9.heap (unhide HB8) (by simp))
  have HS9 := hide (kk9.heap (unhide HS8) (by simp))
  clear kk9 HX8 HY8 HD8 HA8 HB8 HS8
  have hq1 : ∀ W, (Op.equalIn 10000 23 (.agg (brow dYX)) (.agg (brow dYX))).run Tryd.prog W = .ok true W := fun W => by have := dig_eq W dYX dYX rfl rfl; rwa [decide_eq_true rfl] at this
  have hq2 : ∀ W, (Op.equalIn 10000 23 (.agg (brow dX)) (.agg (brow dX))).run Tryd.prog W = .ok true W := fun W => by have := dig_eq W dX dX rfl rfl; rwa [decide_eq_true rfl] at this
  have hq3 : ∀ W, (Op.equalIn 10000 23 (.agg (brow dXY)) (.agg (brow dXY))).run Tryd.prog W = .ok true W := fun W => by have := dig_eq W dXY dXY rfl rfl; rwa [decide_eq_true rfl] at this
  have hq4 : ∀ W, (Op.equalIn 10000 23 (.agg (brow dYX)) (.agg (zb 32))).run Tryd.prog W = .ok false W := fun W => by have := dig_eq W dYX zD rfl rfl; rw [decide_eq_false (by decide)] at this; exact this
  rw [← zb32] at hq4
  have HT9' := hide (((Kept.refl [] ((w8.alloc (.cells (zb 32) 23)).setRow w8.heap.size (brow dXY))).alloc (.cells (brow dY) 23)).heap (unhide HT9) (by simp))
  go_wp2_with (first
    | (rw [zb32]; refine wpList_store_row rfl 23 _ _ rfl w8.heap.size (brow dXY) rfl rfl _ (zb 32) (heap_alloc_new _ _) (by kernel_rfl) (by kernel_rfl) (brow_one _) ?_)
    | (refine wpList_load_rowG rfl 23 (.tmp 3) rfl w2.heap.size rfl _ (brow dYX) (0, 0) _ (unhide HD9) Tryd.underlying23 rfl (by kernel_rfl) ?_)
    | (refine wpList_load_rowG rfl 23 (.tmp 8) rfl w6.heap.size rfl _ (brow dYX) (0, 0) _ (unhide HS9) Tryd.underlying23 rfl (by kernel_rfl) ?_)
    | (refine wpList_load_rowG rfl 23 (.tmp 5) rfl w4.heap.size rfl _ (brow dX) (0, 0) _ (unhide HA9) Tryd.underlying23 rfl (by kernel_rfl) ?_)
    | (refine wpList_load_rowG rfl 23 (.tmp 1) rfl w.heap.size rfl _ (brow dX) (0, 0) _ (unhide HX9) Tryd.underlying23 rfl (by kernel_rfl) ?_)
    | (refine wpList_load_rowG rfl 23 (.tmp 6) rfl (w4.heap.size + 1) rfl _ (brow dXY) (0, 0) _ (unhide HB9) Tryd.underlying23 rfl (by kernel_rfl) ?_)
    | (refine wpList_load_rowG rfl 23 (.tmp 10) rfl w8.heap.size rfl _ (brow dXY) (0, 0) _ (unhide HT9) Tryd.underlying23 rfl (by kernel_rfl) ?_)
    | (rw [zb32, one_dig dY rfl]; refine wpList_load_rowG rfl 23 (.tmp 10) rfl w8.heap.size rfl _ (brow dXY) (0, 0) _ (unhide HT9') Tryd.underlying23 rfl (by kernel_rfl) ?_)
    | (refine wpList_load_midG rfl 23 (.tmp 2) rfl (w.heap.size + 1) 0 rfl (dY.map u8) _ (range_row (unhide HY9)) Tryd.underlying23 rfl (by kernel_rfl) ?_))
  clear hq1 hq2 hq3 hq4 HT9'
  obtain ⟨W9, hW9⟩ : ∃ W9, (w8.alloc (.cells (zb 32) 23)).setRow w8.heap.size (brow dXY) = W9 := ⟨_, rfl⟩
  have hs9 : w8.heap.size + 1 = W9.heap.size := by rw [← hW9]; simp
  rw [hW9] at HK9
  rw [hW9, hs9]
  clear hW9 HX9 HY9 HD9 HA9 HB9 HS9 HT9
  have kc := (Kept.refl [] W9).alloc (.cells (brow dY) 23)
  refine Calls.mono (inclusion_any 4 dX 1 2 _ [dY] dXY _ (by decide) dX_dg ⟨rfl, by decide⟩ (by decide) (by decide) (RdD.one (heap_alloc_new W9 _) dY_dg) ((unhide HT).k ((unhide HK9).trans kc (by simp)))) ?_
  rintro e w10 ⟨rfl, k10⟩
  have HK10 := hide (((unhide HK9).trans kc (by simp)).trans k10 (by simp))
  rw [aw_inc]
  clear k10 kc
  go_wp2
  go_ret
  exact ⟨rfl, unhide HK10⟩
end Go.Proofs.YtbljofojeagdkaaDoor
namespace Go.Proofs.YtbljofojeagdkaaDoor
open Go.RowKit Go.BigFrame
set_option linter.unusedVariables false
set_option linter.unusedSimpArgs false

theorem nil_of_len {p : List (List Nat)} : p = [] ↔ p.length = 0 := by cases p <;> simp

set_option maxRecDepth 100000 in
set_option maxHeartbeats 8000000 in
theorem consistency_any (z : Int) (m n : Nat) (leaf root : List Nat) (pv : Value) (p : List (List Nat)) (w : World) (hz : -9223372036854775808 ≤ z ∧ z ≤ 9223372036854775807) (hl : Dg leaf) (hr : Dg root) (hi : m < 18446744073709551616) (hn : n < 18446744073709551616) (hp : RdD w pv p) (hT : Tabs w) :
    Calls Tryd.prog 13 #[.int .i64 z, .int .u64 m, .int .u64 n, .agg (brow leaf), .agg (brow root), pv] w fun e w' => e = .returned (.int .i64 (conE z m n leaf root p)) ∧ Kept [] w w' := by
  have HP := hide hp
  obtain ⟨ao, len, cap, rfl, h1, h2, h3, h4, h5⟩ := hp
  clear h4 h5
  subst h1
  have HT := hide hT
  have HL := hide hl
  have HR := hide hr
  have hll := hl.1
  have hrl := hr.1
  have hlb := hl.2
  have hrb := hr.2
  clear hT
  obtain ⟨E, hE⟩ : ∃ E, conE z m n leaf root p = E := ⟨_, rfl⟩
  have HE := hide hE
  rw [hE]
  clear hE
  go_enter Tryd.func13, Tryd.ntmps13
  have HGL := hide (((Kept.refl [] (w.alloc (.cells (brow leaf) 23))).alloc (.cells (brow root) 23)).heap (heap_alloc_new w (.cells (brow leaf) 23)) (by simp))
  have HGR := hide (alloc_at w (.cells (brow leaf) 23) (.cells (brow root) 23))
  have HK0 := hide (((Kept.refl [] w).alloc (.cells (brow leaf) 23)).alloc (.cells (brow root) 23))
  have HSL := hide (by rw [List.length_map, hll]; exact Tryd.size_dig : (Tryd.prog.info? 23).map (·.size) = some (leaf.map u8).length)
  have HSM := hide (by rw [List.length_map, hrl]; exact Tryd.size_dig : (Tryd.prog.info? 23).map (·.size) = some (root.map u8).length)
  have hfs : ∀ A : Array Value, (List.foldl (fun cs x => cs.setIfInBounds x.snd x.fst) A (List.map u8 leaf).zipIdx).size = A.size := fun A => fold_size _ A 0
  go_wp2_with (first
    | (refine wpList_load_mid rfl 23 _ rfl w.heap.size 0 rfl (leaf.map u8) _ (range_row (unhide HGL)) Tryd.underlying23 rfl (unhide HSL) ?_)
    | (refine wpList_load_mid rfl 23 _ rfl (w.heap.size + 1) 0 rfl (root.map u8) _ (range_row (unhide HGR)) Tryd.underlying23 rfl (unhide HSM) ?_))
  rw [zb64, two_digs leaf root hll hrl]
  clear hfs
  have k0 := (Kept.refl [] ((w.alloc (.cells (brow leaf) 23)).alloc (.cells (brow root) 23))).alloc (.cells (leaf.map u8 ++ root.map u8).toArray 23)
  refine Calls.mono (mformed_any z _ _ p [leaf, root] _ hz ((unhide HP).old ((unhide HK0).trans k0 (by simp))) (RdD.two (alloc3_at _ _ _ _) hll hrl hlb hrb)) ?_
  rintro e w1 ⟨rfl, k1⟩
  have k01 := k0.trans k1 (by simp)
  have HK1 := hide ((unhide HK0).trans k01 (by simp))
  have HL1 := hide (k01.heap (unhide HGL) (by simp))
  have HR1 := hide (k01.heap (unhide HGR) (by simp))
  clear k0 k1 k01 HGL HGR
  obtain ⟨f, hf⟩ : ∃ f, formedE z ([leaf, root] ++ p) = f := ⟨_, rfl⟩
  have HF := hide (show formedE z (leaf :: root :: p) = f from hf)
  rw [hf]
  clear hf
  by_cases hf0 : f = 0
  · subst hf0
    obtain ⟨hw, hff⟩ := formedE_zero (unhide HF)
    have HWW := hide hw
    clear hff
    have HE0 := hide (by rw [← unhide HE]; unfold conE; rw [if_neg (by rw [unhide HF]; simp)] : E = if n < m then 4 else if m = n then (if p = [] ∧ leaf = root then 0 else 10) else if m = 0 then (if p = [] ∧ leaf = sumD z [] then 0 else 10) else if rootsE z leaf m n p ≠ 0 then rootsE z leaf m n p else if (rootsD z leaf m n p).1 = leaf ∧ (rootsD z leaf m n p).2 = root then 0 else 10)
    by_cases hgt : n < m
    · have hgt' : (n : Int) < m := by omega
      have HC := hide (by rw [unhide HE0, if_pos hgt] : E = 4)
      go_wp2
      go_ret
      exact ⟨by rw [unhide HC]; rfl, unhide HK1⟩
    · have hgt' : ¬ (n : Int) < m := by omega
      by_cases hmn : m = n
      · have hmn' : ((m : Int) == n) = true := by simp; omega
        have hqd : ∀ W, (Op.equalIn 10000 23 (.agg (leaf.map u8).toArray) (.agg (root.map u8).toArray)).run Tryd.prog W = .ok (decide (leaf = root)) W := fun W => dig_eq W leaf root hll hrl
        by_cases hp0 : p.length = 0
        · have hp0' : ((p.length : Int) == 0) = true := by rw [beq_iff_eq]; omega
          have HC := hide (by rw [unhide HE0, if_neg hgt, if_pos hmn]; by_cases h9 : leaf = root; rw [if_pos ⟨nil_of_len.2 hp0, h9⟩]; simp [prE, h9]; rw [if_neg (fun h => h9 h.2)]; simp [prE, h9] : E = prE (decide (leaf = root)))
          go_wp2_with (first
            | (refine wpList_load_midG rfl 23 _ rfl w.heap.size 0 rfl (leaf.map u8) _ (range_row (unhide HL1)) Tryd.underlying23 rfl (unhide HSL) ?_)
            | (refine wpList_load_midG rfl 23 _ rfl (w.heap.size + 1) 0 rfl (root.map u8) _ (range_row (unhide HR1)) Tryd.underlying23 rfl (unhide HSM) ?_))
          refine Calls.mono (proven_any (decide (leaf = root)) _) ?_
          rintro e w9 ⟨rfl, rfl⟩
          generalize hB9 : prE (decide (leaf = root)) = B9
          rw [hB9] at HC
          clear hB9
          go_wp2
          go_ret
          exact ⟨by rw [unhide HC]; rfl, unhide HK1⟩
        · have hp0' : ((p.length : Int) == 0) = false := by rw [beq_eq_false_iff_ne]; omega
          have HC := hide (by rw [unhide HE0, if_neg hgt, if_pos hmn, if_neg (fun h => hp0 (nil_of_len.1 h.1))]; rfl : E = prE false)
          go_wp2_with fail
          refine Calls.mono (proven_any false _) ?_
          rintro e w9 ⟨rfl, rfl⟩
          generalize hB9 : prE false = B9
          rw [hB9] at HC
          clear hB9
          go_wp2
          go_ret
          exact ⟨by rw [unhide HC]; rfl, unhide HK1⟩
      · have hmn' : ((m : Int) == n) = false := by simp; omega
        by_cases hm0 : m = 0
        · have hm0' : ((m : Int) == 0) = true := by simp; omega
          have hwd : 1 ≤ z ∧ z ≤ 32 := by simpa [widthB] using hw
          go_wp2_with fail
          refine Calls.mono (nolog_any z _ hz hw ((unhide HT).k (unhide HK1))) ?_
          rintro e w2 ⟨rfl, k2⟩
          have HNL := hide (by unfold sumD; rw [if_pos hw] : sumD z [] = cutL z.toNat (hash []))
          have hnl := cutL_len z.toNat (hash []) (by omega) (hash_len [])
          obtain ⟨D, hD⟩ : ∃ D, cutL z.toNat (hash []) = D := ⟨_, rfl⟩
          rw [hD] at HNL hnl ⊢
          clear hD
          have HSD := hide (by rw [List.length_map, hnl]; exact Tryd.size_dig : (Tryd.prog.info? 23).map (·.size) = some (D.map u8).length)
          have kN := ((Kept.refl [] w2).alloc (.cells (zb 32) 23)).setRow (g := w2.heap.size) (Or.inr (Nat.le_refl _)) (brow D)
          have HN3 := hide (range_row (setRow_heap (w2.alloc (.cells (zb 32) 23)) w2.heap.size (zb 32) (brow D) 23 (0, 0) (heap_alloc_new _ _)))
          have kk := k2.trans kN (by simp)
          have HL3 := hide (range_row (kk.heap (unhide HL1) (by simp)))
          have HK3 := hide ((unhide HK1).trans kk (by simp))
          clear k2 kN kk
          have hqd : ∀ W, (Op.equalIn 10000 23 (.agg (leaf.map u8).toArray) (.agg (D.map u8).toArray)).run Tryd.prog W = .ok (decide (leaf = D)) W := fun W => dig_eq W leaf D hll hnl
          by_cases hp0 : p.length = 0
          · have hp0' : ((p.length : Int) == 0) = true := by rw [beq_iff_eq]; omega
            have HC := hide (by rw [unhide HE0, if_neg hgt, if_neg hmn, if_pos hm0, unhide HNL]; by_cases h9 : leaf = D; rw [if_pos ⟨nil_of_len.2 hp0, h9⟩]; simp [prE, h9]; rw [if_neg (fun h => h9 h.2)]; simp [prE, h9] : E = prE (decide (leaf = D)))
            go_wp2_with (first
              | (rw [zb32]; refine wpList_store_row rfl 23 _ _ rfl w2.heap.size (brow D) rfl rfl _ (zb 32) (heap_alloc_new _ _) (by rw [brow_size, hnl]; exact Tryd.size_dig) (by rw [zb_size, brow_size, hnl]) (brow_one _) ?_)
              | (refine wpList_load_midG rfl 23 _ rfl w.heap.size 0 rfl (leaf.map u8) _ (unhide HL3) Tryd.underlying23 rfl (unhide HSL) ?_)
              | (refine wpList_load_midG rfl 23 _ rfl w2.heap.size 0 rfl (D.map u8) _ (unhide HN3) Tryd.underlying23 rfl (unhide HSD) ?_))
            refine Calls.mono (proven_any (decide (leaf = D)) _) ?_
            rintro e w9 ⟨rfl, rfl⟩
            generalize hB9 : prE (decide (leaf = D)) = B9
            rw [hB9] at HC
            clear hB9
            go_wp2
            go_ret
            exact ⟨by rw [unhide HC]; rfl, unhide HK3⟩
          · have hp0' : ((p.length : Int) == 0) = false := by rw [beq_eq_false_iff_ne]; omega
            have HC := hide (by rw [unhide HE0, if_neg hgt, if_neg hmn, if_pos hm0, if_neg (fun h => hp0 (nil_of_len.1 h.1))]; rfl : E = prE false)
            go_wp2_with (rw [zb32]; refine wpList_store_row rfl 23 _ _ rfl w2.heap.size (brow D) rfl rfl _ (zb 32) (heap_alloc_new _ _) (by rw [brow_size, hnl]; exact Tryd.size_dig) (by rw [zb_size, brow_size, hnl]) (brow_one _) ?_)
            refine Calls.mono (proven_any false _) ?_
            rintro e w9 ⟨rfl, rfl⟩
            generalize hB9 : prE false = B9
            rw [hB9] at HC
            clear hB9
            go_wp2
            go_ret
            exact ⟨by rw [unhide HC]; rfl, unhide HK3⟩
        · have hm0' : ((m : Int) == 0) = false := by simp; omega
          have hdg := rootsD_dg (z := z) (m := m) (n := n) (unhide HL) (fun d hd => (unhide HP).dg hd)
          go_wp2_with (refine wpList_load_mid rfl 23 _ rfl w.heap.size 0 rfl (leaf.map u8) _ (range_row (unhide HL1)) Tryd.underlying23 rfl (unhide HSL) ?_)
          refine Calls.mono (rootsOf_any z m n leaf _ p _ hz (unhide HL) hi hn ((unhide HP).old (unhide HK1)) ((unhide HT).k (unhide HK1))) ?_
          rintro e w2 ⟨rfl, k2⟩
          obtain ⟨G, hG⟩ : ∃ G, rootsE z leaf m n p = G := ⟨_, rfl⟩
          obtain ⟨D, hD⟩ : ∃ D, rootsD z leaf m n p = D := ⟨_, rfl⟩
          rw [hD] at hdg
          have HE1 := hide (by rw [unhide HE0, if_neg hgt, if_neg hmn, if_neg hm0, hG, hD] : E = if G ≠ 0 then G else if D.1 = leaf ∧ D.2 = root then 0 else 10)
          rw [hG, hD]
          clear hG hD
          obtain ⟨D1, D2⟩ := D
          have hl4 := hdg.1.1
          have hl5 := hdg.2.1
          simp only at hl4 hl5 HE1 ⊢
          have HS4 := hide (by rw [List.length_map, hl4]; exact Tryd.size_dig : (Tryd.prog.info? 23).map (·.size) = some (D1.map u8).length)
          have HS5 := hide (by rw [List.length_map, hl5]; exact Tryd.size_dig : (Tryd.prog.info? 23).map (·.size) = some (D2.map u8).length)
          have HA0 := hide (((Kept.refl [] (w2.alloc (.cells (zb 32) 23))).alloc (.cells (zb 32) 23)).heap (heap_alloc_new w2 (.cells (zb 32) 23)) (by simp))
          have HB0 := hide ((setRow_other ((w2.alloc (.cells (zb 32) 23)).alloc (.cells (zb 32) 23)) w2.heap.size (w2.heap.size + 1) (brow D1) (by omega)).trans (alloc_at w2 (.cells (zb 32) 23) (.cells (zb 32) 23)))
          have kab := ((((Kept.refl [] w2).alloc (.cells (zb 32) 23)).alloc (.cells (zb 32) 23)).setRow (g := w2.heap.size) (Or.inr (Nat.le_refl _)) (brow D1)).setRow (g := w2.heap.size + 1) (Or.inr (by omega)) (brow D2)
          have HA1 := hide (range_row ((setRow_other (((w2.alloc (.cells (zb 32) 23)).alloc (.cells (zb 32) 23)).setRow w2.heap.size (brow D1)) (w2.heap.size + 1) w2.heap.size (brow D2) (by omega)).trans (setRow_heap _ _ _ (brow D1) _ _ (unhide HA0))))
          have HB1 := hide (range_row (setRow_heap (((w2.alloc (.cells (zb 32) 23)).alloc (.cells (zb 32) 23)).setRow w2.heap.size (brow D1)) _ _ (brow D2) _ _ (unhide HB0)))
          have kk := k2.trans kab (by simp)
          have HL3 := hide (range_row (kk.heap (unhide HL1) (by simp)))
          have HR3 := hide (range_row (kk.heap (unhide HR1) (by simp)))
          have HK3 := hide ((unhide HK1).trans kk (by simp))
          clear k2 kab kk hdg
          by_cases hG0 : G = 0
          · subst hG0
            have hqa : ∀ W, (Op.equalIn 10000 23 (.agg (D1.map u8).toArray) (.agg (leaf.map u8).toArray)).run Tryd.prog W = .ok (decide (D1 = leaf)) W := fun W => dig_eq W D1 leaf hl4 hll
            have hqb : ∀ W, (Op.equalIn 10000 23 (.agg (D2.map u8).toArray) (.agg (root.map u8).toArray)).run Tryd.prog W = .ok (decide (D2 = root)) W := fun W => dig_eq W D2 root hl5 hrl
            by_cases h1a : D1 = leaf
            · rw [decide_eq_true h1a] at hqa
              have HC := hide (by rw [unhide HE1, if_neg (by simp)]; by_cases h9 : D2 = root; rw [if_pos ⟨h1a, h9⟩]; simp [prE, h9]; rw [if_neg (fun h => h9 h.2)]; simp [prE, h9] : E = prE (decide (D2 = root)))
              clear h1a
              go_wp2_with (first
                | (rw [zb32]; refine wpList_store_row rfl 23 _ _ rfl w2.heap.size (brow D1) rfl rfl _ (zb 32) (unhide HA0) (by rw [brow_size, hl4]; exact Tryd.size_dig) (by rw [zb_size, brow_size, hl4]) (brow_one _) ?_; clear HA0)
                | (refine wpList_store_row rfl 23 _ _ rfl (w2.heap.size + 1) (brow D2) rfl rfl _ (zb 32) (unhide HB0) (by rw [brow_size, hl5]; exact Tryd.size_dig) (by rw [zb_size, brow_size, hl5]) (brow_one _) ?_; clear HB0)
                | (refine wpList_load_midG rfl 23 _ rfl w2.heap.size 0 rfl (D1.map u8) _ (unhide HA1) Tryd.underlying23 rfl (unhide HS4) ?_)
                | (refine wpList_load_midG rfl 23 _ rfl (w2.heap.size + 1) 0 rfl (D2.map u8) _ (unhide HB1) Tryd.underlying23 rfl (unhide HS5) ?_)
                | (refine wpList_load_midG rfl 23 _ rfl w.heap.size 0 rfl (leaf.map u8) _ (unhide HL3) Tryd.underlying23 rfl (unhide HSL) ?_)
                | (refine wpList_load_midG rfl 23 _ rfl (w.heap.size + 1) 0 rfl (root.map u8) _ (unhide HR3) Tryd.underlying23 rfl (unhide HSM) ?_))
              refine Calls.mono (proven_any (decide (D2 = root)) _) ?_
              rintro e w9 ⟨rfl, rfl⟩
              generalize hB9 : prE (decide (D2 = root)) = B9
              rw [hB9] at HC
              clear hB9
              go_wp2
              go_ret
              exact ⟨by rw [unhide HC]; rfl, unhide HK3⟩
            · rw [decide_eq_false h1a] at hqa
              have HC := hide (by rw [unhide HE1, if_neg (by simp), if_neg (fun h => h1a h.1)]; rfl : E = prE false)
              clear h1a
              go_wp2_with (first
                | (rw [zb32]; refine wpList_store_row rfl 23 _ _ rfl w2.heap.size (brow D1) rfl rfl _ (zb 32) (unhide HA0) (by rw [brow_size, hl4]; exact Tryd.size_dig) (by rw [zb_size, brow_size, hl4]) (brow_one _) ?_; clear HA0)
                | (refine wpList_store_row rfl 23 _ _ rfl (w2.heap.size + 1) (brow D2) rfl rfl _ (zb 32) (unhide HB0) (by rw [brow_size, hl5]; exact Tryd.size_dig) (by rw [zb_size, brow_size, hl5]) (brow_one _) ?_; clear HB0)
                | (refine wpList_load_midG rfl 23 _ rfl w2.heap.size 0 rfl (D1.map u8) _ (unhide HA1) Tryd.underlying23 rfl (unhide HS4) ?_)
                | (refine wpList_load_midG rfl 23 _ rfl w.heap.size 0 rfl (leaf.map u8) _ (unhide HL3) Tryd.underlying23 rfl (unhide HSL) ?_))
              refine Calls.mono (proven_any false _) ?_
              rintro e w9 ⟨rfl, rfl⟩
              generalize hB9 : prE false = B9
              rw [hB9] at HC
              clear hB9
              go_wp2
              go_ret
              exact ⟨by rw [unhide HC]; rfl, unhide HK3⟩
          · have hb : ((G : Int) != 0) = true := by simp; omega
            have HC := hide (by rw [unhide HE1, if_pos hG0] : E = G)
            go_wp2_with (first
              | (rw [zb32]; refine wpList_store_row rfl 23 _ _ rfl w2.heap.size (brow D1) rfl rfl _ (zb 32) (unhide HA0) (by rw [brow_size, hl4]; exact Tryd.size_dig) (by rw [zb_size, brow_size, hl4]) (brow_one _) ?_; clear HA0)
              | (refine wpList_store_row rfl 23 _ _ rfl (w2.heap.size + 1) (brow D2) rfl rfl _ (zb 32) (unhide HB0) (by rw [brow_size, hl5]; exact Tryd.size_dig) (by rw [zb_size, brow_size, hl5]) (brow_one _) ?_; clear HB0))
            go_ret
            exact ⟨by rw [unhide HC]; rfl, unhide HK3⟩
  · have hb : ((f : Int) != 0) = true := by simp; omega
    have HC := hide (by rw [← unhide HE, ← unhide HF]; unfold conE; rw [if_pos (by rw [unhide HF]; exact hf0)] : E = f)
    go_wp2
    go_ret
    exact ⟨by rw [unhide HC]; rfl, unhide HK1⟩
end Go.Proofs.YtbljofojeagdkaaDoor
namespace Go.Proofs.YtbljofojeagdkaaDoor
open Go.RowKit Go.BigFrame
set_option linter.unusedVariables false
set_option linter.unusedSimpArgs false

set_option maxRecDepth 100000 in
set_option maxHeartbeats 4000000 in
theorem mcheckHonest_go (z : Int) (lv : Value) (ls : List (List Nat)) (i n : Nat) (w : World) (hz : -9223372036854775808 ≤ z ∧ z ≤ 9223372036854775807) (hl : RdD w lv ls) (hN : ls.length ≤ 1048576) (hi64 : i < 18446744073709551616) (hn64 : n < 18446744073709551616) (hT : Tabs w) (h6 : Tab6 w) :
    Calls Tryd.prog 4 #[.int .i64 z, lv, .int .u64 (i : Int), .int .u64 (n : Int)] w fun e w' => e = .returned (.bool true) ∧ Kept [] w w' := by
  have HTB := hide hT
  have H6 := hide h6
  have HL := hide hl
  clear hT h6 hl
  go_enter Tryd.func4, Tryd.ntmps4
  go_wp2_with fail
  refine (mawake_any w (unhide HTB)).mono ?_
  rintro e w1 ⟨rfl, k1⟩
  have HK1 := hide k1
  clear k1
  go_wp2_with fail
  refine (treeH_any z lv ls w1 hz ((unhide HL).old (unhide HK1)) hN ((unhide HTB).kept (unhide HK1) (by simp) (by simp)) ((unhide H6).kept (unhide HK1))).mono ?_
  rintro e w2 (⟨hwb, rfl, k2⟩ | ⟨hwb, t, v, qs, u, rfl, tr, ow, lo, h300⟩)
  · have HK2 := hide ((unhide HK1).trans k2 (by simp))
    clear k2
    by_cases hz1 : z < 1
    · go_wp2_with fail
      all_goals go_ret
      all_goals exact ⟨rfl, unhide HK2⟩
    · have hz2 : 32 < z := by
        unfold widthB at hwb
        simp at hwb
        omega
      clear hwb
      go_wp2_with fail
      all_goals go_ret
      all_goals exact ⟨rfl, unhide HK2⟩
  · obtain ⟨hz1, hz2⟩ : 1 ≤ z ∧ z ≤ 32 := by simpa [widthB] using hwb
    have HT2 := hide tr
    have HO2 := hide (ow.back (unhide HK1))
    have HLO := hide lo
    obtain ⟨ua, uc, rfl⟩ := ow.form
    have HB := hide (by omega : (leavesK qs).length < 32768)
    clear tr ow lo hwb
    have HRT := hide (fun m W (kk : Kept [] w2 W) => rootT_all z t v qs m W ((unhide HT2).old kk) (unhide HB) ((unhide HTB).kept ((unhide HO2).kept.trans kk (by simp)) (by simp) (by simp)) ((unhide H6).kept ((unhide HO2).kept.trans kk (by simp))))
    have HIN := hide (fun a b (hb : b < 18446744073709551616) W (kk : Kept [] w2 W) => mincl_any z t v qs a b W ((unhide HT2).old kk) (unhide HB) ((unhide HTB).kept ((unhide HO2).kept.trans kk (by simp)) (by simp) (by simp)) ((unhide H6).kept ((unhide HO2).kept.trans kk (by simp))) hb)
    have HCN := hide (fun a b (hb : b < 18446744073709551616) W (kk : Kept [] w2 W) => mcons_any z t v qs a b W ((unhide HT2).old kk) (unhide HB) ((unhide HTB).kept ((unhide HO2).kept.trans kk (by simp)) (by simp) (by simp)) ((unhide H6).kept ((unhide HO2).kept.trans kk (by simp))) hb)
    have HTK := hide (fun W (kk : Kept [] w2 W) => (unhide HTB).kept ((unhide HO2).kept.trans kk (by simp)) (by simp) (by simp))
    generalize leavesK qs = L at HO2 HLO HB HRT HIN HCN h300
    clear HT2
    obtain ⟨N, hNL⟩ : ∃ N, L.length = N := ⟨_, rfl⟩
    have HNL := hide hNL
    rw [hNL] at h300 ⊢
    clear hNL
    have z1 : ¬ z < 1 := by omega
    have z2 : ¬ 32 < z := by omega
    by_cases hN0 : N = 0
    · have hb0 : ((N : Int) == 0) = true := by simpa using (show (N : Int) = 0 by omega)
      have hN0' : (N : Int) = 0 := by omega
      go_wp2_with (first | simp only [hb0])
      all_goals go_ret
      all_goals exact ⟨rfl, (unhide HO2).kept⟩
    · have hN0' : ¬ (N : Int) = 0 := by omega
      have hb0 : ((N : Int) == 0) = false := by simpa using hN0'
      have hcN : IntKind.u64.wrap (N : Int) = (N : Int) := by rw [wrM]; omega
      obtain ⟨r, hr⟩ : ∃ r, n % N = r := ⟨_, rfl⟩
      have hrN : r < N := by rw [← hr]; exact Nat.mod_lt n (by omega)
      have hre : (n : Int) % (N : Int) = (r : Int) := by rw [← hr]; simp
      clear hr
      obtain ⟨n', hn'⟩ : ∃ n', 1 + r = n' := ⟨_, rfl⟩
      have hn1 : IntKind.u64.wrap (1 + (r : Int)) = (n' : Int) := by rw [wrM]; omega
      have hnN : n' ≤ N := by omega
      have hn0 : 1 ≤ n' := by omega
      clear hn'
      have hn0' : ¬ (n' : Int) = 0 := by omega
      obtain ⟨i', hi'⟩ : ∃ i', i % n' = i' := ⟨_, rfl⟩
      have hin : i' < n' := by rw [← hi']; exact Nat.mod_lt i (by omega)
      have hie : (i : Int) % (n' : Int) = (i' : Int) := by rw [← hi']; simp
      clear hi'
      have hL1 : n' ≤ L.length := by rw [unhide HNL]; exact hnN
      obtain ⟨m1, hm1⟩ : ∃ m1, n' - 1 = m1 := ⟨_, rfl⟩
      have hmi : IntKind.i64.wrap ((n' : Int) - 1) = (m1 : Int) := by simp [IntKind.wrap, IntKind.signed, IntKind.bits]; omega
      have hmN : m1 < N := by omega
      have hcn : IntKind.i64.wrap (n' : Int) = (n' : Int) := by simp [IntKind.wrap, IntKind.signed, IntKind.bits]; omega
      have hM := honest_inc (unhide HLO) hin hL1 (by omega)
      have hC := honest_con (unhide HLO) (Nat.le_of_lt hin) hL1 (by omega)
      have hSm := honest_same (unhide HLO) hL1
      have hX := (unhide HLO).getD (i := i') (by omega)
      have hY := (unhide HLO).getD (i := m1) (by omega)
      have hOt := honest_other (unhide HLO) hY.2 hin hL1 (by omega)
      have A1 := hide (unhide HIN i' n' (by omega))
      have A2 := hide (unhide HCN i' n' (by omega))
      rw [show inE L i' n' = 0 from if_neg (by omega), show inD z L i' n' = rgL z L (pathF i' 64 0 n') from if_neg (by omega)] at A1
      rw [show csE L i' n' = 0 from if_neg (by omega), show csD z L i' n' = rgL z L (smL i' n') from if_neg (by omega)] at A2
      have B1 := hide (unhide HRT n')
      have B2 := hide (unhide HRT i')
      rw [show rgE L 0 n' = 0 from if_neg (by omega)] at B1
      rw [show rgE L 0 i' = 0 from if_neg (by omega)] at B2
      have hR : Dg (rgD z L 0 n') := by rw [(unhide HLO).rg (by omega) hL1]; exact ((unhide HLO).rng 0 n').1
      have hR0 : Dg (rgD z L 0 i') := by rw [(unhide HLO).rg (by omega) (by omega)]; exact ((unhide HLO).rng 0 i').1
      have hDo : Dg (rootD z (L.getD m1 []) i' n' (rgL z L (pathF i' 64 0 n'))) := rootD_dg hY.1
      obtain ⟨ub, uo, hua, hrd⟩ := (unhide HO2).rd.range (by omega)
      subst hua
      have HR1 := hide (hrd i' (by omega))
      have HR2 := hide (hrd m1 (by omega))
      have HDX := hide hX.1
      have HDY := hide hY.1
      have HM := hide hM
      have HC := hide hC
      have HSm := hide hSm
      have HOt := hide hOt
      have HRg := hide hR
      have HRg0 := hide hR0
      have HDo := hide hDo
      clear hM hC hSm hX hY hOt hR hR0 hDo hrd HIN HCN HRT hL1
      generalize L.getD i' [] = X at HR1 HDX HM
      generalize L.getD m1 [] = Y at HR2 HDY HOt HDo
      generalize rgL z L (pathF i' 64 0 n') = P at A1 HM HOt HDo
      generalize rgL z L (smL i' n') = Q at A2 HC
      generalize rgD z L 0 n' = R at B1 HM HC HSm HOt HRg
      generalize rgD z L 0 i' = R0 at B2 HC HRg0
      obtain ⟨D, hDE⟩ : ∃ D, rootD z Y i' n' P = D := ⟨_, rfl⟩
      have HDE := hide hDE
      rw [hDE] at HOt HDo
      clear hDE
      have hxl := (unhide HDX).1
      have hyl := (unhide HDY).1
      have hrl := (unhide HRg).1
      have hr0l := (unhide HRg0).1
      have hdl := (unhide HDo).1
      go_wp2_with (first | simp only [hb0] | simp only [hcN] | simp only [hre] | simp only [hn1] | simp only [hie])
      refine (unhide A1 w2 (Kept.refl _ _)).mono ?_
      rintro e w3 ⟨p, rfl, o3⟩
      have HP3 := hide o3
      have HK3 := hide o3.kept
      obtain ⟨pa, pc, rfl⟩ := o3.form
      clear o3 A1
      go_wp2_with fail
      refine (unhide B1 w3 (unhide HK3)).mono ?_
      rintro e wa1 ⟨rfl, ka⟩
      have kab := ka.trans (kept_old wa1 R) (by simp)
      have HN1 := hide (cell_new wa1 R)
      have HKb1 := hide ((unhide HK3).trans kab (by simp))
      have HP3x1 := hide ((unhide HP3).pass kab)
      obtain ⟨wb1, hwb⟩ : ∃ wb, (wa1.alloc (.cells (zb 32) 23)).setRow wa1.heap.size (brow R) = wb := ⟨_, rfl⟩
      rw [hwb] at HN1 HKb1 HP3x1
      have HW1 := hide hwb
      clear ka kab hwb
      have r1 := range_kept (unhide HR1) (unhide HKb1) (by simp)
      have HIC := hide (fun w' (hw' : Kept [] wb1 w') => (by
        have h9 := inclusion_any z X i' n' (.slice pa P.length pc) P R w' hz (unhide HDX) (unhide HRg) (by omega) (by omega) ((unhide HP3x1).rd.old hw') (unhide HTK w' ((unhide HKb1).trans hw' (by simp)))
        rw [unhide HM] at h9
        exact h9.mono (fun e w2 h2 => ⟨h2.1, hw'.trans h2.2 (by simp)⟩) : Calls Tryd.prog 10 #[.int .i64 z, .agg (brow X), .int .u64 (i' : Int), .int .u64 (n' : Int), .slice pa P.length pc, .agg (brow R)] w' fun e w2 => e = .returned (.int .i64 0) ∧ Kept [] wb1 w2))
      have hne : ∀ p : Prop, (∀ w', Kept [] wb1 w' → p) = p := fun p => propext ⟨fun h => h wb1 (Kept.refl [] wb1), fun h _ _ => h⟩
      have ia : ¬ (i' : Int) < 0 := by omega
      have ib : ¬ (N : Int) ≤ (i' : Int) := by omega
      go_wp2_with (first
        | (rw [zb32]; refine wpList_store_row rfl 23 (.tmp 14) _ rfl wa1.heap.size (brow R) rfl rfl _ (zb 32) (heap_alloc_new _ _) (Tryd.szD hrl) (by rw [zb_size, brow_size, hrl]) (brow_one _) ?_; rw [unhide HW1]))
      refine wp_region_keep (by kernel_rfl) (by kernel_rfl) ?_
      iterate 11 (go_big_quiet_step (fail))
      refine wpQuiet_mid rfl 23 _ rfl ub (uo + i' * 32) rfl (X.map Go.Proofs.YtbljofojeagdkaaDoor.u8) _ (fun w' hw' => range_kept r1 hw' (by simp)) Tryd.underlying23 rfl (by rw [List.length_map, hxl]; exact Tryd.size_dig) ?_
      simp only [Act.put, List.setIfInBounds_toArray, List.set_cons_succ, List.set_cons_zero]
      iterate 3 (go_big_quiet_step (fail))
      refine wpQuiet_row rfl 23 (.tmp 14) rfl wa1.heap.size rfl _ (brow R) (0, 0) _ (fun w' hw' => hw'.heap (unhide HN1) (by simp)) Tryd.underlying23 rfl (Tryd.szD hrl) ?_
      simp only [Act.put, List.setIfInBounds_toArray, List.set_cons_succ, List.set_cons_zero]
      go_big_quiet_want
      go_big_quiet_op
      apply Exists.intro
      refine ⟨fun w' hw' => ?_, ?_⟩
      · exact unhide HIC w' hw'
      go_big_quiet_on
      repeat (go_big_quiet_step (fail))
      refine wpQuiet_nil ?_
      intro w5 hw5
      have HK5 := hide ((unhide HKb1).trans hw5 (by simp))
      have HN15 := hide (hw5.heap (unhide HN1) (by simp))
      have HP5 := hide ((unhide HP3x1).pass hw5)
      clear hw5 hne r1 HIC HN1 HP3x1 HKb1
      go_wp2_with fail
      refine (unhide A2 w5 (unhide HK5)).mono ?_
      rintro e w6 ⟨q, rfl, o6⟩
      have HQ6 := hide o6
      have HK6 := hide ((unhide HK5).trans o6.kept (by simp))
      have HN16 := hide (o6.kept.heap (unhide HN15) (by simp))
      have HP6 := hide ((unhide HP5).pass o6.kept)
      obtain ⟨qa, qc, rfl⟩ := o6.form
      clear o6 A2 HP5 HN15 HK5
      go_wp2_with fail
      refine (unhide B2 w6 (unhide HK6)).mono ?_
      rintro e wa2 ⟨rfl, ka⟩
      have kab := ka.trans (kept_old wa2 R0) (by simp)
      have HN2 := hide (cell_new wa2 R0)
      have HKb2 := hide ((unhide HK6).trans kab (by simp))
      have HN16x2 := hide (kab.heap (unhide HN16) (by simp))
      have HP6x2 := hide ((unhide HP6).pass kab)
      have HQ6x2 := hide ((unhide HQ6).pass kab)
      obtain ⟨wb2, hwb⟩ : ∃ wb, (wa2.alloc (.cells (zb 32) 23)).setRow wa2.heap.size (brow R0) = wb := ⟨_, rfl⟩
      rw [hwb] at HN2 HKb2 HN16x2 HP6x2 HQ6x2
      have HW2 := hide hwb
      clear ka kab hwb
      have HCO := hide (fun W (kk : Kept [] wb2 W) => (by
        have h9 := consistency_any z i' n' R0 R (.slice qa Q.length qc) Q W hz (unhide HRg0) (unhide HRg) (by omega) (by omega) ((unhide HQ6x2).rd.old kk) (unhide HTK W ((unhide HKb2).trans kk (by simp)))
        rw [unhide HC] at h9
        exact h9 : Calls Tryd.prog 13 #[.int .i64 z, .int .u64 (i' : Int), .int .u64 (n' : Int), .agg (brow R0), .agg (brow R), .slice qa Q.length qc] W fun e w' => e = .returned (.int .i64 0) ∧ Kept [] W w'))
      have HCS := hide (fun W (kk : Kept [] wb2 W) => (by
        have h9 := consistency_any z n' n' R R (.slice none 0 0) [] W hz (unhide HRg) (unhide HRg) (by omega) (by omega) RdD_nil (unhide HTK W ((unhide HKb2).trans kk (by simp)))
        rw [unhide HSm] at h9
        exact h9 : Calls Tryd.prog 13 #[.int .i64 z, .int .u64 (n' : Int), .int .u64 (n' : Int), .agg (brow R), .agg (brow R), .slice none 0 0] W fun e w' => e = .returned (.int .i64 0) ∧ Kept [] W w'))
      go_wp2_with (first
        | (rw [zb32]; refine wpList_store_row rfl 23 (.tmp 18) _ rfl wa2.heap.size (brow R0) rfl rfl _ (zb 32) (heap_alloc_new _ _) (Tryd.szD hr0l) (by rw [zb_size, brow_size, hr0l]) (brow_one _) ?_; rw [unhide HW2])
        | (refine wpList_load_rowG rfl 23 (.tmp 18) rfl wa2.heap.size rfl _ (brow R0) (0, 0) _ (unhide HN2) Tryd.underlying23 rfl (Tryd.szD hr0l) ?_)
        | (refine wpList_load_rowG rfl 23 (.tmp 14) rfl wa1.heap.size rfl _ (brow R) (0, 0) _ (unhide HN16x2) Tryd.underlying23 rfl (Tryd.szD hrl) ?_))
      refine (unhide HCO wb2 (Kept.refl _ _)).mono ?_
      rintro e w8 ⟨rfl, k8⟩
      have HN18 := hide (k8.heap (unhide HN16x2) (by simp))
      have HK8 := hide k8
      have HP8 := hide ((unhide HP6x2).pass k8)
      clear k8 HN2 HP6x2 HQ6x2 HCO
      go_wp2_with (first
        | (refine wpList_load_rowG rfl 23 (.tmp 14) rfl wa1.heap.size rfl _ (brow R) (0, 0) _ (unhide HN18) Tryd.underlying23 rfl (Tryd.szD hrl) ?_))
      refine (unhide HCS w8 (unhide HK8)).mono ?_
      rintro e w9 ⟨rfl, k9⟩
      have HN19 := hide (k9.heap (unhide HN18) (by simp))
      have HK9 := hide ((unhide HKb2).trans ((unhide HK8).trans k9 (by simp)) (by simp))
      have HP9 := hide ((unhide HP8).pass k9)
      clear k9 HN18 HP8 HK8 HCS HN16x2
      have r2 := range_kept (unhide HR2) (unhide HK9) (by simp)
      have HR29 := hide r2
      have HNY := hide (cell_new w9 Y)
      have kY := kept_old w9 Y
      have HN1Y := hide (kY.heap (unhide HN19) (by simp))
      have HPY := hide ((unhide HP9).pass kY)
      have HKY := hide ((unhide HK9).trans kY (by simp))
      obtain ⟨wy, hwy⟩ : ∃ wy, (w9.alloc (.cells (zb 32) 23)).setRow w9.heap.size (brow Y) = wy := ⟨_, rfl⟩
      rw [hwy] at HNY HN1Y HPY HKY
      have HWY := hide hwy
      clear kY hwy r2
      have HRO := hide (by
        have h9 := rootOf_any z Y i' n' (.slice pa P.length pc) P wy hz (unhide HDY) (by omega) (by omega) (unhide HPY).rd (unhide HTK wy (unhide HKY))
        rw [(unhide HOt).1, unhide HDE] at h9
        exact h9 : Calls Tryd.prog 8 #[.int .i64 z, .agg (brow Y), .int .u64 (i' : Int), .int .u64 (n' : Int), .slice pa P.length pc] wy fun e w' => e = .returned (.tuple #[.agg (brow D), .int .i64 0]) ∧ Kept [] wy w')
      have ic : ¬ (m1 : Int) < 0 := by omega
      have id' : ¬ (N : Int) ≤ (m1 : Int) := by omega
      go_wp2_with (first
        | simp only [hcn]
        | simp only [hmi]
        | (refine wpList_load_mid rfl 23 _ rfl ub (uo + m1 * 32) rfl (Y.map Go.Proofs.YtbljofojeagdkaaDoor.u8) _ (unhide HR29) Tryd.underlying23 rfl (by rw [List.length_map, hyl]; exact Tryd.size_dig) ?_)
        | (rw [zb32]; refine wpList_store_row rfl 23 (.tmp 20) _ rfl w9.heap.size (brow Y) rfl rfl _ (zb 32) (heap_alloc_new _ _) (Tryd.szD hyl) (by rw [zb_size, brow_size, hyl]) (brow_one _) ?_; rw [unhide HWY])
        | (refine wpList_load_row rfl 23 (.tmp 20) rfl w9.heap.size rfl _ (brow Y) (0, 0) _ (unhide HNY) Tryd.underlying23 rfl (Tryd.szD hyl) ?_))
      refine (unhide HRO).mono ?_
      rintro e wa3 ⟨rfl, ka⟩
      have kab := ka.trans (kept_old wa3 D) (by simp)
      have HN3 := hide (cell_new wa3 D)
      have HKb3 := hide ((unhide HKY).trans kab (by simp))
      have HN1Yx3 := hide (kab.heap (unhide HN1Y) (by simp))
      have HNYx3 := hide (kab.heap (unhide HNY) (by simp))
      have HPYx3 := hide ((unhide HPY).pass kab)
      obtain ⟨wb3, hwb⟩ : ∃ wb, (wa3.alloc (.cells (zb 32) 23)).setRow wa3.heap.size (brow D) = wb := ⟨_, rfl⟩
      rw [hwb] at HN3 HKb3 HN1Yx3 HNYx3 HPYx3
      have HW3 := hide hwb
      clear ka kab hwb
      have HIO := hide (by
        have h9 := inclusion_any z Y i' n' (.slice pa P.length pc) P R wb3 hz (unhide HDY) (unhide HRg) (by omega) (by omega) (unhide HPYx3).rd (unhide HTK wb3 (unhide HKb3))
        rw [(unhide HOt).2] at h9
        exact h9)
      have hq := fun W => dig_eq W D R hdl hrl
      go_wp2_with (first
        | (rw [zb32]; refine wpList_store_row rfl 23 (.tmp 21) _ rfl wa3.heap.size (brow D) rfl rfl _ (zb 32) (heap_alloc_new _ _) (Tryd.szD hdl) (by rw [zb_size, brow_size, hdl]) (brow_one _) ?_; rw [unhide HW3])
        | (refine wpList_load_row rfl 23 (.tmp 20) rfl w9.heap.size rfl _ (brow Y) (0, 0) _ (unhide HNYx3) Tryd.underlying23 rfl (Tryd.szD hyl) ?_)
        | (refine wpList_load_row rfl 23 (.tmp 14) rfl wa1.heap.size rfl _ (brow R) (0, 0) _ (unhide HN1Yx3) Tryd.underlying23 rfl (Tryd.szD hrl) ?_))
      refine (unhide HIO).mono ?_
      rintro e wf ⟨rfl, kf⟩
      have HNf := hide (kf.heap (unhide HN3) (by simp))
      have HN1f := hide (kf.heap (unhide HN1Yx3) (by simp))
      have HKf := hide ((unhide HO2).kept.trans ((unhide HKb3).trans kf (by simp)) (by simp))
      clear kf
      by_cases hDR : D = R
      · rw [decide_eq_true hDR] at hq
        rw [if_pos hDR]
        have HDR := hide hDR
        clear hDR HIO
        go_wp2_with (first
          | (refine wpList_load_rowG rfl 23 (.tmp 21) rfl wa3.heap.size rfl _ (brow D) (0, 0) _ (unhide HNf) Tryd.underlying23 rfl (Tryd.szD hdl) ?_)
          | (refine wpList_load_rowG rfl 23 (.tmp 14) rfl wa1.heap.size rfl _ (brow R) (0, 0) _ (unhide HN1f) Tryd.underlying23 rfl (Tryd.szD hrl) ?_))
        go_ret
        exact ⟨rfl, unhide HKf⟩
      · rw [decide_eq_false hDR] at hq
        rw [if_neg hDR]
        have HDR := hide hDR
        clear hDR HIO
        go_wp2_with (first
          | (refine wpList_load_rowG rfl 23 (.tmp 21) rfl wa3.heap.size rfl _ (brow D) (0, 0) _ (unhide HNf) Tryd.underlying23 rfl (Tryd.szD hdl) ?_)
          | (refine wpList_load_rowG rfl 23 (.tmp 14) rfl wa1.heap.size rfl _ (brow R) (0, 0) _ (unhide HN1f) Tryd.underlying23 rfl (Tryd.szD hrl) ?_))
        go_ret
        exact ⟨rfl, unhide HKf⟩

theorem mcheckHonest_walk (z : Int) (lv : Value) (ls : List (List Nat)) (i n : Nat) (w : World) (hz : -9223372036854775808 ≤ z ∧ z ≤ 9223372036854775807) (hl : RdD w lv ls) (hN : ls.length ≤ 1048576) (hi64 : i < 18446744073709551616) (hn64 : n < 18446744073709551616) (h : Tabs w ∧ Tab6 w) :
    Calls Tryd.prog 4 #[.int .i64 z, lv, .int .u64 (i : Int), .int .u64 (n : Int)] w fun e w' => e = .returned (.bool true) ∧ Below w.heap.size w w' :=
  (mcheckHonest_go z lv ls i n w hz hl hN hi64 hn64 h.1 h.2).mono fun e w' h9 => ⟨h9.1, h9.2.below (Nat.le_refl _) (by simp)⟩
end Go.Proofs.YtbljofojeagdkaaDoor
namespace Go.Proofs.YtbljofojeagdkaaDoor
open Go.ChangeShapes Go.WideShapes Go.ChangeAt Go.RowKit Go.Deep
set_option linter.unusedVariables false
set_option linter.unusedSimpArgs false

theorem own : ownKnob Tryd.prog.godebug = none := by kernel_rfl
theorem laidOut : laidOutB Tryd.prog = true := by kernel_rfl
theorem byte_of_wf {x : Int} (h : (Lit.int .u8 x).wf = true) : 0 ≤ x ∧ x < 256 := by
  simp [Lit.wf, IntKind.min, IntKind.max, IntKind.signed, IntKind.bits] at h
  exact ⟨by omega, by omega⟩
theorem int_of_wf {x : Int} (h : (Lit.int .i64 x).wf = true) : -9223372036854775808 ≤ x ∧ x ≤ 9223372036854775807 := by
  simp [Lit.wf, IntKind.min, IntKind.max, IntKind.signed, IntKind.bits] at h
  exact ⟨by omega, by omega⟩

theorem bulk_one {H : Type} (d : DataW H) : 1 ≤ Rows.uptoBulk d := by
  cases d with
  | lit l => cases l <;> simp [Rows.uptoBulk]
  | nil => simp [Rows.uptoBulk]
  | ptr d => simp [Rows.uptoBulk]
  | slice elems spare => simp [Rows.uptoBulk]
  | agg parts => simp [Rows.uptoBulk]
  | iface t d => simp [Rows.uptoBulk]
  | map entries => simp [Rows.uptoBulk]
  | held h => simp [Rows.uptoBulk]
theorem bulk_len {H : Type} (l : List (DataW H)) : l.length ≤ Rows.uptoBulkAll l := by
  induction l with
  | nil => simp [Rows.uptoBulkAll]
  | cons x r ih => have := bulk_one x; simp only [Rows.uptoBulkAll, List.length_cons]; omega
theorem Tryd.bytes5 : Tryd.prog.bytesOf 5 = 1 := by kernel_rfl

section
variable {H : Type} {enc : TypeId × Value → H} {W : World}

/-- Bytes that came in, as the walks want them, of whatever length. -/
theorem open_bytes {fuel : Nat} {cs : List Value} {x : DataW H × List MemPlace} (h : DataW.trod enc Tryd.prog W 0 (fun _ => true) true fuel 80 cs = some x) :
    ∃ v bs, cs = [v] ∧ (bs.length ≤ 140737488355328 → Rd W v bs) ∧ ((bs = [] ∧ x.1 = .nil) ∨ ∃ elems spare, x.1 = .slice elems spare ∧ elems.length = bs.length) := by
  rcases open_ints Tryd.underlying80 Tryd.underlying5 (by kernel_rfl) h with ⟨rfl, rfl⟩ | ⟨a, len, cap, zs, rfl, _, hl, hm, hz, rfl, hcell, hwz⟩
  · exact ⟨_, [], rfl, fun _ => Rd.nil W, .inl ⟨rfl, rfl⟩⟩
  · have h2 : (lits (H := H) .u8 (zs.take len)).length = len := by simp only [lits, List.length_map, List.length_take]; simp at hz; omega
    have hbl : ((zs.take len).map Int.toNat).length = len := by simp at hz; simp; omega
    refine ⟨_, (zs.take len).map Int.toNat, rfl, fun hB => ⟨_, _, _, rfl, hbl, hl, ⟨by unfold maxLen at hm; omega, by omega⟩, by simp, ?_, ?_⟩, .inr ⟨_, _, rfl, by rw [h2, hbl]⟩⟩
    · intro y hy
      obtain ⟨z, hz1, rfl⟩ := List.mem_map.1 hy
      have := byte_of_wf (hwz z (List.mem_of_mem_take hz1)); omega
    · intro hp
      simp at hz
      have hc0 := hcell 0 (by omega)
      obtain ⟨b, off, spot⟩ := a
      have hspot : spot = none := by simpa [Addr.add] using World.cell?_spot hc0
      subst hspot
      refine ⟨b, off, rfl, fun i hi => ?_⟩
      have hc := hcell i (by omega)
      have hzi : i < zs.length := by omega
      rw [Addr.add_mid] at hc
      rw [hc]
      have hw := byte_of_wf (hwz (zs[i]) (List.getElem_mem hzi))
      simp only [List.getD_eq_getElem?_getD, List.getElem?_eq_getElem hzi, Option.getD_some, List.getElem?_map, List.getElem?_take, hi, if_true, Option.map_some]
      simp [u8]; omega
/-- Their length, by the reach. -/
theorem reach_bytes {ts : List TypeId} {ds : List (DataW H)} (h : (DataW.weightsEach Tryd.prog ts ds).all (· ≤ reachBytes) = true) {j : Nat} (ht : ts[j]? = some 80) {d : DataW H} (hd : ds[j]? = some d) {bs : List Nat}
    (hx : (bs = [] ∧ d = .nil) ∨ ∃ elems spare, d = .slice elems spare ∧ elems.length = bs.length) : bs.length ≤ 140737488351232 := by
  rcases hx with ⟨rfl, _⟩ | ⟨elems, spare, rfl, he⟩
  · simp
  · have := sized_slice h ht hd Tryd.underlying80
    rw [Tryd.bytes5, Nat.mul_one] at this
    unfold reachBytes at this
    omega
/-- Their length, by the bulk. -/
theorem bulk_bytes {d : DataW H} {bs : List Nat} (hx : (bs = [] ∧ d = .nil) ∨ ∃ elems spare, d = .slice elems spare ∧ elems.length = bs.length) : bs.length + 1 ≤ Rows.uptoBulk d := by
  rcases hx with ⟨rfl, rfl⟩ | ⟨elems, spare, rfl, he⟩
  · simp [Rows.uptoBulk]
  · have := bulk_len elems
    simp only [Rows.uptoBulk]; omega
end
end Go.Proofs.YtbljofojeagdkaaDoor
namespace Go.Proofs.YtbljofojeagdkaaDoor
open Go Go.RowKit
set_option linter.unusedVariables false
set_option linter.unusedSimpArgs false
section
variable {H : Type} {enc : TypeId × Value → H} {W : World}

def natOf : Value → Nat
  | .int _ n => n.toNat
  | _ => 0
/-- A digest that came in. -/
theorem open_dig {fuel : Nat} {cs : List Value} {x : DataW H × List MemPlace} (h : DataW.trod enc Tryd.prog W 0 (fun _ => true) true fuel 23 cs = some x) :
    ∃ l : List Nat, cs = l.map u8 ∧ l.length = 32 ∧ ∀ y ∈ l, y < 256 := by
  obtain ⟨xs, m, _, rfl, hl, hn, hc⟩ := DataW.trod_array Tryd.underlying23 h
  rw [show Tryd.prog.cellsOf 23 = 32 from by kernel_rfl] at hl
  rw [show Tryd.prog.cellsOf 5 = 1 from by kernel_rfl] at hc
  have key : ∀ i (hi : i < cs.length), cs[i] = u8 (natOf cs[i]) ∧ natOf cs[i] < 256 := by
    intro i hi
    have h1 := hc i (by omega)
    rw [Nat.mul_one, List.getElem?_eq_getElem (by omega)] at h1
    obtain ⟨n, e, _, hw⟩ := DataW.trod_int Tryd.underlying5 h1
    rw [List.drop_eq_getElem_cons hi, List.take_succ_cons, List.take_zero] at e
    simp only [List.cons.injEq, and_true] at e
    have := byte_of_wf hw
    rw [e]
    refine ⟨?_, ?_⟩
    · simp [u8, natOf]; omega
    · simp [natOf]; omega
  refine ⟨cs.map natOf, ?_, by simp [hl], ?_⟩
  · rw [List.map_map]
    refine List.ext_getElem (by simp) fun i h1 h2 => ?_
    rw [List.getElem_map]
    exact (key i h1).1
  · intro y hy
    obtain ⟨v, hv, rfl⟩ := List.mem_map.1 hy
    obtain ⟨i, hi, rfl⟩ := List.getElem_of_mem hv
    exact (key i hi).2
set_option maxRecDepth 100000 in
theorem open_digv {b0 : Nat} {v : Value} {d : DataW H} {ps : List MemPlace} (hv : Value.okWide Tryd.prog W .any b0 23 v) (h : DataW.Trod enc Tryd.prog W 0 (fun _ => true) true 23 v d ps) :
    ∃ l : List Nat, v = .agg (brow l) ∧ l.length = 32 ∧ ∀ y ∈ l, y < 256 := by
  unfold Value.okWide at hv
  rw [Tryd.underlying23] at hv
  obtain ⟨cs, rfl, _, _⟩ := hv
  obtain ⟨fuel, hf⟩ := h
  obtain ⟨l, e, h1, h2⟩ := open_dig hf
  refine ⟨l, ?_, h1, h2⟩
  simp only [Value.cells] at e
  unfold brow
  rw [← e]
end
end Go.Proofs.YtbljofojeagdkaaDoor
namespace Go.Proofs.YtbljofojeagdkaaDoor
open Go.RowKit
set_option linter.unusedVariables false
set_option linter.unusedSimpArgs false

/-- The slice value v reads as these numbers of 64 bits. -/
def RdQ (w : World) (v : Value) (xs : List Nat) : Prop :=
  ∃ (ao : Option Addr) (len cap : Nat), v = .slice ao len cap ∧ xs.length = len ∧ len ≤ cap ∧ cap ≤ 9223372036854775807 ∧ (∀ x ∈ xs, x < 18446744073709551616) ∧
    (0 < len → ∃ b off, ao = some ⟨b, off, none⟩ ∧ ∀ i, i < len → w.cell? ⟨b, off + i, none⟩ = some (.int .u64 ((xs.getD i 0 : Nat) : Int)))
theorem RdQ.old {w0 w : World} {v : Value} {ws : List Nat} (h : RdQ w0 v ws) (k : Kept [] w0 w) : RdQ w v ws := by
  obtain ⟨ao, len, cap, rfl, h1, h2, h3, h5, h6⟩ := h
  refine ⟨ao, len, cap, rfl, h1, h2, h3, h5, fun hp => ?_⟩
  obtain ⟨b, off, rfl, hc⟩ := h6 hp
  exact ⟨b, off, rfl, fun i hi => k.cell (hc i hi) (by simp)⟩
end Go.Proofs.YtbljofojeagdkaaDoor
namespace Go.Proofs.YtbljofojeagdkaaDoor
open Go.ChangeShapes Go.WideShapes Go.ChangeAt Go.RowKit Go.Deep
set_option linter.unusedVariables false
set_option linter.unusedSimpArgs false
section
variable {H : Type} {enc : TypeId × Value → H} {W : World}

/-- Digests that came in. -/
theorem open_digs2 {fuel : Nat} {cs : List Value} {x : DataW H × List MemPlace} (h : DataW.trod enc Tryd.prog W 0 (fun _ => true) true fuel 25 cs = some x) (hB : Rows.uptoBulk x.1 ≤ 1048576) :
    ∃ v ds, cs = [v] ∧ RdD W v ds ∧ ds.length ≤ 1048576 := by
  rcases open_slice Tryd.underlying25 h with ⟨rfl, rfl⟩ | ⟨a, len, cap, m, n, D, Pl, rfl, _, hl, hm, hmm, rfl, hx⟩
  · exact ⟨_, [], rfl, ⟨none, 0, 0, rfl, rfl, Nat.le_refl _, by omega, fun d hd => by simp at hd, fun h => by omega⟩, by simp⟩
  · have hC : Tryd.prog.cellsOf 23 = 32 := by kernel_rfl
    rw [hC] at hx
    simp only [if_true] at hmm
    simp only [Rows.uptoBulk] at hB
    have hcap : cap ≤ 1048576 := by
      have h1 := bulk_len ((List.range len).map D)
      have h2 := bulk_len ((List.range (m - len)).map fun j => D (len + j))
      simp at h1 h2
      omega
    obtain ⟨f, hf⟩ := choose_lt (α := List Nat) (n := len) (p := fun i o => (∀ j v, (o.map u8)[j]? = some v → W.cell? ((a.add (i * 32)).add j) = some v) ∧ o.length = 32 ∧ ∀ y ∈ o, y < 256) (by
      intro i hi
      obtain ⟨cs', h1, h2⟩ := hx i (by omega)
      obtain ⟨l, rfl, hl1, hl2⟩ := open_dig h2
      obtain ⟨_, hlen, hc⟩ := World.cells?_some h1
      refine ⟨l, fun j v hv => ?_, hl1, hl2⟩
      have hj := (List.getElem?_eq_some_iff.1 hv).1
      have := hc j (by rw [List.length_map] at hj; omega)
      rw [this, ← hv, List.getElem?_eq_getElem hj])
    refine ⟨_, (List.range len).map f, rfl, ⟨some a, len, cap, rfl, by simp, hl, by omega, ?_, ?_⟩, by simp; omega⟩
    · intro d hd
      obtain ⟨i, hi, rfl⟩ := List.mem_map.1 hd
      exact (hf i (List.mem_range.1 hi)).2
    · intro hp
      obtain ⟨b, off, spot⟩ := a
      have h0 := hf 0 hp
      have hc0 := h0.1 0 (u8 ((f 0).getD 0 0)) (by rw [List.getElem?_map, List.getD_eq_getElem?_getD, List.getElem?_eq_getElem (by omega)]; rfl)
      have hspot : spot = none := by simpa [Addr.add] using World.cell?_spot hc0
      subst hspot
      refine ⟨b, off, rfl, fun i hi j v hv => ?_⟩
      have e9 : ((List.range len).map f).getD i [] = f i := by simp [List.getD_eq_getElem?_getD, hi]
      rw [e9] at hv
      have := (hf i hi).1 j v hv
      rw [Addr.add_mid, Addr.add_mid] at this
      exact this

end
end Go.Proofs.YtbljofojeagdkaaDoor
