import Derived.Test.YtpomkljgjihogaaDoorRowz
import Derived.Test.YtpomkljgjihogaaDoorCRoot
import Derived.Test.YtpomkljgjihogaaDoorQTail
namespace Go.Proofs.YtpomkljgjihogaaDoor
open Go.RowKit Go.BigFrame
set_option linter.unusedVariables false
set_option linter.unusedSimpArgs false

abbrev qv (n : Nat) : Value := .int .u64 (n : Int)
def qrow (bs : List Nat) : Array Value := (bs.map qv).toArray
theorem qrow_size (ms : List Nat) : (qrow ms).size = ms.length := by simp [qrow]
theorem qrow_set (ms : List Nat) (k v : Nat) : (qrow ms).setIfInBounds k (qv v) = qrow (ms.set k v) := by unfold qrow; rw [List.map_set]; simp
theorem qrow_cell {w : World} {g : Nat} {ms : List Nat} {t : TypeId} {fr : Nat × Nat} (h : w.heap[g]? = some (.cells (qrow ms) t fr)) (k : Nat) (hk : k < ms.length) : w.cell? ⟨g, k, none⟩ = some (qv (ms.getD k 0)) := by
  rw [cell_of_row _ _ _ _ _ _ h]
  simp [qrow, List.getD_eq_getElem?_getD, List.getElem?_eq_getElem hk]
theorem qrow_setCell {w : World} {g : Nat} {ms : List Nat} {t : TypeId} (h : w.heap[g]? = some (.cells (qrow ms) t (0, 0))) (k v : Nat) : (w.setCell ⟨g, k, none⟩ (qv v)).heap[g]? = some (.cells (qrow (ms.set k v)) t (0, 0)) := by
  rw [heap_setCell_same w g k _ t _ h, qrow_set]
/-- The slice value v reads as the numbers xs. -/
def RdU (w : World) (v : Value) (xs : List Nat) : Prop :=
  ∃ (ao : Option Addr) (cap : Nat), v = .slice ao xs.length cap ∧ xs.length ≤ cap ∧ cap ≤ 9223372036854775807 ∧ (∀ x ∈ xs, x < 18446744073709551616) ∧
    (0 < xs.length → ∃ b off, ao = some ⟨b, off, none⟩ ∧ ∀ i, i < xs.length → w.cell? ⟨b, off + i, none⟩ = some (qv (xs.getD i 0)))
theorem RdU.old {w0 w : World} {v : Value} {xs : List Nat} (h : RdU w0 v xs) (k : Kept [] w0 w) : RdU w v xs := by
  obtain ⟨ao, cap, rfl, h1, h2, h3, h4⟩ := h
  refine ⟨ao, cap, rfl, h1, h2, h3, fun hp => ?_⟩
  obtain ⟨b, off, rfl, hc⟩ := h4 hp
  exact ⟨b, off, rfl, fun i hi => k.cell (hc i hi) (by simp)⟩
theorem RdU.row {w : World} {g n : Nat} {xs : List Nat} {t : TypeId} {fr : Nat × Nat} (h : w.heap[g]? = some (.cells (qrow xs) t fr)) (hn : xs.length = n) (hl : n ≤ 1000000) (hx : ∀ x ∈ xs, x < 18446744073709551616) : RdU w (.slice (some ⟨g, 0, none⟩) n n) xs := by
  subst hn
  exact ⟨_, _, rfl, Nat.le_refl _, by omega, hx, fun _ => ⟨g, 0, rfl, fun i hi => by rw [Nat.zero_add]; exact qrow_cell h i hi⟩⟩

theorem madeU (n : Nat) : madeCells #[(.int .u64 0 : Value)] n = qrow (List.replicate n 0) := by
  apply Array.toList_inj.1; rw [toList_madeCells_one]; simp [qrow]

theorem Tryd.infoU : (Tryd.prog.info? 26).map (fun i => (i.zero, i.size, i.bytes)) = some (some (.int .u64 0), 1, 8) := by kernel_rfl

set_option maxRecDepth 100000 in
set_option maxHeartbeats 1000000 in
theorem times_any (va vb : Value) (a b : List Nat) (w : World) (ha : RdU w va a) (hb : RdU w vb b) (hl : a.length + b.length ≤ 1000) :
    Calls Tryd.prog 24 #[va, vb] w fun e w' => ∃ g, e = .returned (.slice (some ⟨g, 0, none⟩) (a.length + b.length) (a.length + b.length)) ∧ w.heap.size ≤ g ∧ w'.heap[g]? = some (.cells (qrow (timesL a b)) 26 (0, 0)) ∧ Kept [] w w' := by
  have HA := hide ha
  have HB := hide hb
  obtain ⟨aa, ca, rfl, a1, a2, a3, a4⟩ := ha
  obtain ⟨ab, cb, rfl, b1, b2, b3, b4⟩ := hb
  clear a4 b4 a3 b3
  have hmk : ∀ W : World, (Instr.makeSlice 49 (.int .i64 ((a.length : Int) + b.length)) (.int .i64 ((a.length : Int) + b.length))).run Tryd.prog W = .ok (.slice (some ⟨W.heap.size, 0, none⟩) (a.length + b.length) (a.length + b.length)) (W.alloc (.cells (qrow (List.replicate (a.length + b.length) 0)) 26)) := fun W => by
    have h := run_make_row' (P := Tryd.prog) 49 26 (.int .u64 0) 8 Tryd.underlying49 Tryd.infoU rfl .i64 .i64 (a.length + b.length) (by omega) (by omega) W
    rw [madeU] at h
    rw [← h]
    congr 2 <;> simp
  have hs : IntKind.i64.wrap ((a.length : Int) + b.length) = ((a.length + b.length : Nat) : Int) := by simp [IntKind.wrap, IntKind.signed, IntKind.bits]; omega
  go_enter Tryd.func24, Tryd.ntmps24
  go_wp2_with fail
  have HG0 := hide (heap_alloc_new w (.cells (qrow (List.replicate (a.length + b.length) 0)) 26))
  have HK0 := hide ((Kept.refl [] w).alloc (.cells (qrow (List.replicate (a.length + b.length) 0)) 26))
  obtain ⟨L, hL⟩ : ∃ L, a.length + b.length = L := ⟨_, rfl⟩
  have HTL := hide (by unfold timesL; rw [hL] : timesL a b = tI a b a.length 0 (List.replicate L 0))
  have HZ0 := hide (fun z (hz : z ∈ List.replicate L 0) => by rw [(List.mem_replicate.1 hz).2]; decide : ∀ z ∈ List.replicate L 0, z < 18446744073709551616)
  rw [hL] at HG0 HK0 ⊢
  have HLn := hide (List.length_replicate (n := L) (a := 0))
  generalize List.replicate L 0 = c0 at *
  obtain ⟨TT, hTT⟩ : ∃ TT, timesL a b = TT := ⟨_, rfl⟩
  rw [hTT] at HTL
  have HTT := hide hTT
  clear hTT
  obtain ⟨W, hW⟩ : ∃ W, w.alloc (.cells (qrow c0) 26) = W := ⟨_, rfl⟩
  rw [hW] at HG0 HK0 ⊢
  clear hW hmk
  obtain ⟨g, hg⟩ : ∃ g, w.heap.size = g := ⟨_, rfl⟩
  have Hge := hide (by omega : w.heap.size ≤ g)
  rw [hg] at HG0 ⊢
  clear hg
  go_loopw [6] (fun t6 wr => ∃ (i n : Nat) (c : List Nat), t6 = .int .i64 i ∧ i + n = a.length ∧ c.length = L ∧ Hid (∀ z ∈ c, z < 18446744073709551616) ∧ Hid (tI a b n i c = TT) ∧ Hid (wr.heap[g]? = some (.cells (qrow c) 26 (0, 0))) ∧ Hid (Kept [] w wr)) (fun t _ => a.length - (intOf t).toNat)
  case atStart => exact ⟨0, a.length, c0, rfl, by omega, unhide HLn, HZ0, hide (unhide HTL).symm, HG0, HK0⟩
  case round =>
    obtain ⟨i, n, c, rfl, hin, hcl, HCB, HTI, HG, HK⟩ := hrel
    cases n with
    | zero =>
      have hlt' : ¬ (i : Int) < a.length := by omega
      go_wp2
      go_ret
      refine ⟨g, rfl, unhide Hge, ?_, unhide HK⟩
      have h9 := unhide HTI
      unfold tI at h9
      rw [unhide HTT, ← h9]
      exact unhide HG
    | succ n =>
      have hlt' : (i : Int) < a.length := by omega
      have HTI2 := hide (by have h9 := unhide HTI; unfold tI at h9; exact h9 : tI a b n (i + 1) (tJ (a.getD i 0) b i b.length 0 c) = TT)
      obtain ⟨D, hD⟩ : ∃ D, tJ (a.getD i 0) b i b.length 0 c = D := ⟨_, rfl⟩
      rw [hD] at HTI2
      have HDE := hide hD
      have HDB := hide (by rw [← hD]; exact tJ_lt _ _ _ _ _ _ (unhide HCB) : ∀ z ∈ D, z < 18446744073709551616)
      have hDl : D.length = L := by rw [← hD, tJ_len]; exact hcl
      clear hD
      go_wp2_with fail
      obtain ⟨wo, hwo⟩ : ∃ wo, wo = wr := ⟨_, rfl⟩
      subst hwo
      go_loopw [7] (fun t7 wq => ∃ (j m : Nat) (d : List Nat), t7 = .int .i64 j ∧ j + m = b.length ∧ d.length = L ∧ Hid (∀ z ∈ d, z < 18446744073709551616) ∧ Hid (tJ (a.getD i 0) b i m j d = D) ∧ Hid (wq.heap[g]? = some (.cells (qrow d) 26 (0, 0))) ∧ Hid (Kept [] w wq)) (fun t _ => b.length - (intOf t).toNat)
      case atStart => exact ⟨0, b.length, c, rfl, by omega, hcl, HCB, HDE, HG, HK⟩
      case round =>
        obtain ⟨j, m, d, rfl, hjm, hdl, HB9, HTJ, HG1, HK1⟩ := hrel
        cases m with
        | zero =>
          have hlt2 : ¬ (j : Int) < b.length := by omega
          have HDD := hide (by have h9 := unhide HTJ; unfold tJ at h9; exact h9 : d = D)
          rw [unhide HDD] at HG1
          go_wp2
          go_roundw
          case rel => exact ⟨i + 1, n, D, by go_num, by omega, hDl, HDB, HTI2, HG1, HK1⟩
          case measure => simp [intOf]; omega
        | succ m =>
          have hlt2 : (j : Int) < b.length := by omega
          have HTJ2 := hide (by have h9 := unhide HTJ; unfold tJ at h9; exact h9 : tJ (a.getD i 0) b i m (j + 1) (tS d (a.getD i 0) (b.getD j 0) (i + j)) = D)
          obtain ⟨_, _, ea, _, _, a3, a4⟩ := id (unhide HA)
          cases ea
          obtain ⟨ga, oa, rfl, hca⟩ := a4 (by omega)
          obtain ⟨_, _, eb, _, _, b3, b4⟩ := id (unhide HB)
          cases eb
          obtain ⟨gb, ob, rfl, hcb⟩ := b4 (by omega)
          have cA := (unhide HK1).cell (hca i (by omega)) (by simp)
          have cB := (unhide HK1).cell (hcb j (by omega)) (by simp)
          have bA : a.getD i 0 < 18446744073709551616 := by rw [List.getD_eq_getElem?_getD, List.getElem?_eq_getElem (by omega)]; exact a3 _ (List.getElem_mem _)
          have bB : b.getD j 0 < 18446744073709551616 := by rw [List.getD_eq_getElem?_getD, List.getElem?_eq_getElem (by omega)]; exact b3 _ (List.getElem_mem _)
          have nA := block_lt_of_cell (hca i (by omega))
          have nB := block_lt_of_cell (hcb j (by omega))
          clear a3 a4 b3 b4 hca hcb
          obtain ⟨t, ht⟩ : ∃ t, i + j = t := ⟨_, rfl⟩
          have ht2 : (i : Int) + j = t := by omega
          have htL : t + 1 < L := by omega
          have cC := qrow_cell (unhide HG1) t (by omega)
          have zf : wr.frozen? ⟨g, t, none⟩ = false := frozen_of_row _ _ _ _ _ (unhide HG1)
          have bC : d.getD t 0 < 18446744073709551616 := by rw [List.getD_eq_getElem?_getD, List.getElem?_eq_getElem (by omega)]; exact unhide HB9 _ (List.getElem_mem _)
          rw [ht] at HTJ2
          have HTS := hide (rfl : tS d (a.getD i 0) (b.getD j 0) t = tS d (a.getD i 0) (b.getD j 0) t)
          generalize a.getD i 0 = x at *
          generalize b.getD j 0 = y at *
          obtain ⟨cc, hcc⟩ : ∃ cc, d.getD t 0 = cc := ⟨_, rfl⟩
          rw [hcc] at cC bC
          obtain ⟨xy, hxy⟩ : ∃ xy, x * y % 18446744073709551616 = xy := ⟨_, rfl⟩
          have hw1 : IntKind.u64.wrap ((x : Int) * y) = xy := by rw [← hxy]; simp [IntKind.wrap, IntKind.signed, IntKind.bits]
          obtain ⟨s, hs9⟩ : ∃ s, (cc + xy) % 18446744073709551616 = s := ⟨_, rfl⟩
          have hw2 : IntKind.u64.wrap ((cc : Int) + xy) = s := by rw [← hs9]; simp [IntKind.wrap, IntKind.signed, IntKind.bits]
          have hs64 : s < 18446744073709551616 := by omega
          go_wp2_with fail
          refine wp_quiet_tail 16 (by kernel_rfl) (by kernel_rfl) ?_
          simp only [List.take_succ_cons, List.take_zero, List.drop_succ_cons, List.drop_zero]
          repeat (go_big_quiet_step (fail))
          refine wpQuiet_nil ?_
          intro _ hw'
          obtain ⟨n1, hw''⟩ := hw'
          subst hw''
          have HG2 := hide (qrow_setCell (w := wr.drewN n1) (((Kept.refl [] wr).drewN n1).heap (unhide HG1) (by simp)) t s)
          have HK2 := hide (((unhide HK1).drewN n1).setCell (p := ⟨g, t, none⟩) (Or.inr (unhide Hge)) (qv s))
          go_wp2_with fail
          obtain ⟨V, hV⟩ : ∃ V, (wr.drewN n1).setCell ⟨g, t, none⟩ (qv s) = V := ⟨_, rfl⟩
          rw [hV] at HG2 HK2 ⊢
          clear hV
          have hd1l : (d.set t s).length = L := by simp [hdl]
          have cC2 := qrow_cell (unhide HG2) t (by omega)
          rw [getD_set_same _ _ _ (by omega)] at cC2
          have cC3 := qrow_cell (unhide HG2) (t + 1) (by omega)
          have bC3 : (d.set t s).getD (t + 1) 0 < 18446744073709551616 := by
            rw [getD_set_other _ _ _ _ (by omega), List.getD_eq_getElem?_getD, List.getElem?_eq_getElem (by omega)]; exact unhide HB9 _ (List.getElem_mem _)
          obtain ⟨c3, hc3⟩ : ∃ c3, (d.set t s).getD (t + 1) 0 = c3 := ⟨_, rfl⟩
          rw [hc3] at cC3 bC3
          obtain ⟨q9, hq9⟩ : ∃ q9, s / 524288 = q9 := ⟨_, rfl⟩
          have hq1 : (s : Int).tdiv 524288 = q9 := by rw [Int.tdiv_eq_ediv_of_nonneg (by omega)]; omega
          have hq2 : (s : Int) / 524288 = q9 := by omega
          have hq3 : IntKind.u64.wrap (q9 : Int) = q9 := by simp [IntKind.wrap, IntKind.signed, IntKind.bits]; omega
          obtain ⟨s3, hs3⟩ : ∃ s3, (c3 + q9) % 18446744073709551616 = s3 := ⟨_, rfl⟩
          have hw3 : IntKind.u64.wrap ((c3 : Int) + q9) = s3 := by rw [← hs3]; simp [IntKind.wrap, IntKind.signed, IntKind.bits]
          have ht3 : (t : Int) + 1 < L := by omega
          have ht4 : ((t + 1 : Nat) : Int) < L := by omega
          have zf2 : V.frozen? ⟨g, t + 1, none⟩ = false := frozen_of_row _ _ _ _ _ (unhide HG2)
          refine wp_quiet_tail 15 (by kernel_rfl) (by kernel_rfl) ?_
          simp only [List.take_succ_cons, List.take_zero, List.drop_succ_cons, List.drop_zero]
          repeat (go_big_quiet_step (fail))
          refine wpQuiet_nil ?_
          intro _ hw'
          obtain ⟨n2, hw''⟩ := hw'
          subst hw''
          have HG3 := hide (qrow_setCell (w := V.drewN n2) (((Kept.refl [] V).drewN n2).heap (unhide HG2) (by simp)) (t + 1) s3)
          have HK3 := hide (((unhide HK2).drewN n2).setCell (p := ⟨g, t + 1, none⟩) (Or.inr (unhide Hge)) (qv s3))
          have cC4 := qrow_cell (unhide HG3) t (by simp; omega)
          rw [getD_set_other _ _ _ _ (by omega), getD_set_same _ _ _ (by omega)] at cC4
          obtain ⟨r9, hr9⟩ : ∃ r9, s % 524288 = r9 := ⟨_, rfl⟩
          have hr1 : (s : Int).tmod 524288 = r9 := by rw [Int.tmod_eq_emod_of_nonneg (by omega)]; omega
          have hr2 : (s : Int) % 524288 = r9 := by omega
          have zf3 : ((V.drewN n2).setCell ⟨g, t + 1, none⟩ (qv s3)).frozen? ⟨g, t, none⟩ = false := frozen_of_row _ _ _ _ _ (unhide HG3)
          have HTS9 := hide (by unfold tS; simp only; rw [hcc, hxy, hs9, hc3, hq9, hs3, hr9] : tS d x y t = (((d.set t s).set (t + 1) s3).set t r9))
          have HB10 := hide (tS_lt x y t (unhide HB9))
          rw [unhide HTS9] at HTJ2 HB10
          have HG4 := hide (qrow_setCell (unhide HG3) t r9)
          have HK4 := hide ((unhide HK3).setCell (p := ⟨g, t, none⟩) (Or.inr (unhide Hge)) (qv r9))
          go_wp2_with fail
          refine ⟨⟨j + 1, m, _, by simp, by omega, by simp [hdl], HB10, HTJ2, HG4, HK4⟩, ?_⟩
          simp [intOf]; omega
end Go.Proofs.YtpomkljgjihogaaDoor
