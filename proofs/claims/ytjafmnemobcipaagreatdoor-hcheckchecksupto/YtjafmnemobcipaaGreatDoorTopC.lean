import Derived.Test.YtjafmnemobcipaaGreatDoorTopB
import Derived.Test.YtjafmnemobcipaaGreatDoorRowz
import Derived.Deep.RegionHeld3
import Derived.Lib.SlBytesConst
import Derived.Lib.SmallJoins
import Derived.Lib.ConvBytes
import Derived.Laws.AppendOwn
import Derived.Test.YtjafmnemobcipaaGreatDoorBase
import Derived.Test.YtjafmnemobcipaaGreatDoorCards
import Derived.Test.YtjafmnemobcipaaGreatDoorTie
import Derived.ProofKit
import Derived.OpenShut
import Derived.Deep.Slices
import Derived.SizedLaws
import Derived.Test.YtjafmnemobcipaaGreatDoorTopA
import Derived.Deep.SlicePairs
namespace Go.Proofs.YtjafmnemobcipaaGreatDoor
open Go.RowKit Go.BigFrame
set_option linter.unusedVariables false
set_option linter.unusedSimpArgs false

theorem cnt_step (b k : Nat) : cnt b (k + 1) = cnt b k + (if b.testBit k then 1 else 0) := by
  unfold cnt
  rw [setB]
  split <;> simp
theorem cnt_mono (b : Nat) {i : Nat} : ∀ {j : Nat}, i ≤ j → cnt b i ≤ cnt b j
  | 0, h => by obtain rfl : i = 0 := by omega
               exact Nat.le_refl _
  | j + 1, h => by
    rcases Nat.lt_or_ge j i with h9 | h9
    · obtain rfl : i = j + 1 := by omega
      exact Nat.le_refl _
    · have := cnt_mono b (j := j) h9
      rw [cnt_step]; omega
theorem rank_fit {b n : Nat} {c : Nat} (h : fitS b n (c : Int) true = true) : rankB b (c : Int) ≤ n := by
  unfold fitS at h
  simp only [Bool.and_eq_true, decide_eq_true_eq, beq_iff_eq] at h
  obtain ⟨_, h1, h2⟩ := h
  unfold hasB at h1
  simp only [Bool.and_eq_true, decide_eq_true_eq, Int.toNat_natCast] at h1
  obtain ⟨_, h3, h4⟩ := h1
  unfold rankB
  rw [if_neg (by omega), if_pos h3, Int.toNat_natCast]
  have h5 := cnt_step b c
  rw [if_pos h4] at h5
  have h6 := cnt_mono b (i := c + 1) (j := 16) (by omega)
  simp at h2
  omega
theorem fitsB_at {z : Int} {ks : List Nat} {ss : List (Nat × List (List Nat))} {m : Nat} : ∀ (n : Nat), fitsB z ks ss m n = true → ∀ i, i < n → fitS (ss.getD i (0, [])).1 (ss.getD i (0, [])).2.length (atC z ks i) (decide (i + 1 < ss.length) || decide (0 < m)) = true
  | 0, _, i, hi => by omega
  | n + 1, h, i, hi => by
    rw [fitsB, Bool.and_eq_true] at h
    rcases Nat.lt_or_ge i n with h9 | h9
    · exact fitsB_at n h.1 i h9
    · obtain rfl : i = n := by omega
      exact h.2
theorem prov_fit {z : Int} {ks : List Nat} {ss : List (Nat × List (List Nat))} {ps : List (List Nat × List Nat)} (h : provB z ks ss ps = true) : ∀ i, i < footN ss ps → rankB (ss.getD i (0, [])).1 (atC z ks i : Nat) ≤ (ss.getD i (0, [])).2.length := by
  intro i hi
  unfold provB at h
  simp only [Bool.and_eq_true] at h
  unfold footN at hi
  have h9 := fitsB_at ss.length h.2.1 i (by split at hi <;> omega)
  have h8 : (decide (i + 1 < ss.length) || decide (0 < ps.length)) = true := by
    split at hi
    · simp; omega
    · simp; omega
  rw [h8] at h9
  exact rank_fit h9
def rtE (z : Int) (key : List Nat) (ss : List (Nat × List (List Nat))) (ps : List (List Nat × List Nat)) : Nat :=
  if hfE z key [] ss = 0 then (if provB z (keyS z key) ss ps then 0 else 10) else hfE z key [] ss
def rtD (z : Int) (key : List Nat) (ss : List (Nat × List (List Nat))) (ps : List (List Nat × List Nat)) : List Nat := if rtE z key ss ps = 0 then rooD z key ss ps else List.replicate 32 0
def rtV (z : Int) (key : List Nat) (ss : List (Nat × List (List Nat))) (ps : List (List Nat × List Nat)) : Option (List Nat) := if rtE z key ss ps = 0 then valH key ps else none

theorem results_cell_tmp3 {P : Program} {fn : Func} {p q r s : Tmp} {ty : TypeId} (h : fn.results = #[.cell p ty, .tmp q, .tmp r, .tmp s]) (tmps : Array Value) (w : World) (g : Nat) (t : TypeId) (cs : Array Value) (fr : Nat × Nat) (d : TypeDesc)
    (hp : tmps.getD p undef = .pointer (some ⟨g, 0, none⟩)) (hg : w.heap[g]? = some (.cells cs t fr))
    (hu : P.underlying ty = some d) (hd : (match d with | .struct _ | .array _ _ => true | _ => false) = true) (hi : (P.info? ty).map (·.size) = some cs.size) (v u x : Value) (hq : tmps.getD q undef = v) (hr : tmps.getD r undef = u) (hs : tmps.getD s undef = x) :
    (results fn tmps).run P w = .ok (.tuple #[.agg cs, v, u, x]) w := by
  have hp' : tmps[p]?.getD undef = .pointer (some ⟨g, 0, none⟩) := by simpa using hp
  have hq' : tmps[q]?.getD undef = v := by simpa using hq
  have hr' : tmps[r]?.getD undef = u := by simpa using hr
  have hs' : tmps[s]?.getD undef = x := by simpa using hs
  simp [results, h, hp', hq', hr', hs', asAddr, run_loadVar_row w g t ty cs fr d hg hu hd hi]
theorem hfE_zero {z : Int} {key : List Nat} {kn : List (List Nat)} {ss : List (Nat × List (List Nat))} (h : hfE z key kn ss = 0) : widthB z = true ∧ key.length ≤ 64 := by
  unfold hfE at h
  by_cases h1 : widthB z = false
  · rw [if_pos h1] at h; omega
  · rw [if_neg h1] at h
    by_cases h2 : 64 < key.length
    · rw [if_pos h2] at h; omega
    · exact ⟨by simpa using h1, by omega⟩
theorem RdD.nil (w : World) : RdD w (.slice none 0 0) [] := ⟨none, 0, 0, rfl, rfl, Nat.le_refl _, by omega, fun d hd => (by cases hd), fun h => by omega⟩

theorem cliD_dg (z : Int) (ks : List Nat) (ss : List (Nat × List (List Nat))) : ∀ (k : Nat) (d : List Nat), Dg d → Dg (cliD z ks ss k d)
  | 0, d, h => h
  | k + 1, d, h => by rw [cliD]; exact cliD_dg z ks ss k _ (sunD_dg _ _ _)
theorem footD_dg (z : Int) (ss : List (Nat × List (List Nat))) (ps : List (List Nat × List Nat)) : Dg (footD z ss ps) := by
  unfold footD brD
  split
  · exact sumD_dg _ _
  · split
    · exact sumD_dg _ _
    · exact sunD_dg _ _ _

set_option maxRecDepth 100000 in
set_option maxHeartbeats 4000000 in
theorem hrootOf_any (z : Int) (kv : Value) (key : List Nat) (sv pv : Value) (ss : List (Nat × List (List Nat))) (ps : List (List Nat × List Nat)) (w : World) (hz : -9223372036854775808 ≤ z ∧ z ≤ 9223372036854775807) (hk : Rd w kv key) (hs : RdS w sv ss) (hp : RdK w pv ps) (hT : Tabs w) (hpb : (pairB ps).length ≤ 1000000000000)
    (hsl : ss.length ≤ 1000000000000) (hpl : ps.length ≤ 1000000000000) (hkl : ∀ s ∈ ss, s.2.length ≤ 1000000000) :
    Calls Tryz.prog 11 #[.int .i64 z, kv, .agg #[sv, pv]] w fun e w' => (∃ v', e = .returned (.tuple #[.agg (brow (rtD z key ss ps)), v', .bool (rtV z key ss ps).isSome, .int .i64 (rtE z key ss ps : Int)]) ∧ Rd w' v' ((rtV z key ss ps).getD [])) ∧ Kept [] w w' := by
  obtain ⟨sa, sn, sc, vs0, rfl, _⟩ := id hs
  obtain ⟨pa, pn, pc, _, _, rfl, _⟩ := id hp
  obtain ⟨ka, kn, kc, rfl, hkn, _⟩ := id hk
  have HP := hide hp
  have HS := hide hs
  have HT := hide hT
  have HKY := hide hk
  have HKL := hide hkl
  clear hp hs hT hkl hk
  have HK0 := hide (((Kept.refl [] w).alloc (.cells #[.slice sa sn sc, .slice pa pn pc] 26)).alloc (.cells (zb 32) 28))
  have HG0 := hide (heap_alloc2_old w (.cells #[.slice sa sn sc, .slice pa pn pc] 26) (.cells (zb 32) 28))
  have HZ0 := hide (heap_alloc2_new w (.cells #[.slice sa sn sc, .slice pa pn pc] 26) (.cells (zb 32) 28))
  obtain ⟨W, hW⟩ : ∃ W, (w.alloc (.cells #[.slice sa sn sc, .slice pa pn pc] 26)).alloc (.cells (zb 32) 28) = W := ⟨_, rfl⟩
  rw [hW] at HK0 HG0 HZ0
  have c0 : W.cell? ⟨w.heap.size, 0, none⟩ = some (.slice sa sn sc) := cell_of_row W w.heap.size 0 _ _ _ (unhide HG0)
  go_enter Tryz.func11, Tryz.ntmps11
  go_wp2_with (first | (rw [zb32, hW]))
  clear hW
  refine Calls.mono (hformed_any z _ key _ ss _ [] _ hz ((unhide HKY).old (unhide HK0) (by simp)) ((unhide HS).old (unhide HK0)) (RdD.nil _)) ?_
  rintro e w1 ⟨rfl, k1⟩
  have HK1 := hide ((unhide HK0).trans k1 (by simp))
  have HG1 := hide (k1.heap (unhide HG0) (by simp))
  have HZ1 := hide (k1.heap (unhide HZ0) (by simp))
  clear k1 c0 HK0 HG0 HZ0
  by_cases hf : hfE z key [] ss = 0
  · have HE := hide (by unfold rtE; rw [if_pos hf] : rtE z key ss ps = if provB z (keyS z key) ss ps then 0 else 10)
    obtain ⟨hw, hk64⟩ := hfE_zero hf
    rw [hf]
    clear hf
    go_wp2_with fail
    refine Calls.mono (key_all z _ key _ hz ((unhide HKY).old (unhide HK1) (by simp)) (by omega) ((unhide HT).k (unhide HK1))) ?_
    rintro e w2 ⟨rfl, k2⟩
    have HKD : keyS z key = sumD z (2 :: key) := rfl
    rw [← HKD]
    clear HKD
    have HDG := hide (keyS_dg z key)
    have hd := (unhide HDG).1
    have HSZ := hide (Tryz.szD hd)
    have kN := (k2.alloc (.cells (zb 32) 28)).setRow (g := w2.heap.size) (Or.inr k2.size) (brow (keyS z key))
    have HN2 := hide (setRow_heap (w2.alloc (.cells (zb 32) 28)) w2.heap.size (zb 32) (brow (keyS z key)) 28 (0, 0) (heap_alloc_new _ _))
    have HK2 := hide ((unhide HK1).trans kN (by simp))
    have HG2 := hide (kN.heap (unhide HG1) (by simp))
    have HZ2 := hide (kN.heap (unhide HZ1) (by simp))
    clear kN k2 HK1 HG1 HZ1
    go_wp2_with (first
      | (rw [zb32]; refine wpList_store_row rfl 28 _ _ rfl w2.heap.size (brow (keyS z key)) rfl rfl _ (zb 32) (heap_alloc_new _ _) (unhide HSZ) (by rw [zb_size, brow_size, hd]) (brow_one _) ?_)
      | (refine wpList_load_row rfl 28 _ rfl w2.heap.size rfl _ (brow (keyS z key)) (0, 0) _ (unhide HN2) Tryz.underlying28 rfl (unhide HSZ) ?_)
      | (refine wpList_load_row rfl 26 _ rfl w.heap.size rfl _ #[.slice sa sn sc, .slice pa pn pc] (0, 0) _ (unhide HG2) Tryz.underlying26 rfl (by kernel_rfl) ?_))
    obtain ⟨X, hX⟩ : ∃ X, (w2.alloc (.cells (zb 32) 28)).setRow w2.heap.size (brow (keyS z key)) = X := ⟨_, rfl⟩
    rw [hX] at HN2 HK2 HG2 HZ2 ⊢
    clear hX
    have HKL2 := hide (fun s (h : s ∈ ss) => Nat.le_trans (unhide HKL s h) (by omega) : ∀ s ∈ ss, s.2.length ≤ 1000000000000)
    refine Calls.mono (proves_any z (keyS z key) _ _ ss ps _ hw (unhide HDG) ((unhide HS).old (unhide HK2)) ((unhide HP).old (unhide HK2)) ((unhide HT).k (unhide HK2)) hsl hpl (unhide HKL2)) ?_
    rintro e w3 ⟨rfl, k3⟩
    have HK3 := hide ((unhide HK2).trans k3 (by simp))
    have HN3 := hide (k3.heap (unhide HN2) (by simp))
    have HG3 := hide (k3.heap (unhide HG2) (by simp))
    have HZ3 := hide (k3.heap (unhide HZ2) (by simp))
    clear k3 HK2 HN2 HG2 HZ2 HKL2
    cases hpv : provB z (keyS z key) ss ps with
    | false =>
      have HE2 := hide (by rw [unhide HE, hpv]; rfl : rtE z key ss ps = 10)
      have HD := hide (by unfold rtD; rw [unhide HE2]; rfl : rtD z key ss ps = List.replicate 32 0)
      have HV := hide (by unfold rtV; rw [unhide HE2]; rfl : rtV z key ss ps = none)
      clear hpv HE
      go_wp2_with (rw [zb32]; refine wpList_store_row rfl 28 _ _ rfl (w.heap.size + 1) (zb 32) rfl rfl _ (zb 32) (unhide HZ3) (by rw [zb_size]; exact Tryz.size_dig) rfl (brow_one _) ?_)
      have HKF := hide ((unhide HK3).setRow (g := w.heap.size + 1) (Or.inr (by omega)) (zb 32))
      have HZF := hide (setRow_heap w3 (w.heap.size + 1) (zb 32) (zb 32) 28 (0, 0) (unhide HZ3))
      rw [unhide HD, unhide HV, unhide HE2]
      refine bodyPost_ret (v := .tuple #[.agg (zb 32), .slice none 0 0, .bool false, .int .i64 10]) ?_ rfl ⟨⟨_, rfl, Rd.nil _⟩, unhide HKF⟩
      exact results_cell_tmp3 rfl _ _ (w.heap.size + 1) _ (zb 32) (0, 0) _ rfl (unhide HZF) Tryz.underlying28 rfl (by rw [zb_size]; exact Tryz.size_dig) _ _ _ rfl rfl rfl
    | true =>
      have HE2 := hide (by rw [unhide HE, hpv]; rfl : rtE z key ss ps = 0)
      have HD := hide (by unfold rtD; rw [unhide HE2]; rfl : rtD z key ss ps = cliD z (keyS z key) ss (footN ss ps) (footD z ss ps))
      have HV := hide (by unfold rtV; rw [unhide HE2]; rfl : rtV z key ss ps = valH key ps)
      have HFIT := hide (prov_fit hpv)
      clear hpv HE
      have c1 : w3.cell? ⟨w.heap.size, 1, none⟩ = some (.slice pa pn pc) := cell_of_row w3 w.heap.size 1 _ _ _ (unhide HG3)
      go_wp2_with fail
      refine Calls.mono (valueOf_any _ _ key ps _ ((unhide HKY).old (unhide HK3) (by simp)) ((unhide HP).old (unhide HK3))) ?_
      rintro e w4 ⟨⟨v4, rfl, hv4, hb4⟩, k4⟩
      have HB4 := hide (fun x hx => by have h9 := hb4 x hx; have h8 := lt_of_block (unhide HZ3); omega : ∀ x ∈ blk v4, x ≠ w.heap.size + 1)
      clear hb4
      have HK4 := hide ((unhide HK3).trans k4 (by simp))
      have HN4 := hide (k4.heap (unhide HN3) (by simp))
      have HG4 := hide (k4.heap (unhide HG3) (by simp))
      have HZ4 := hide (k4.heap (unhide HZ3) (by simp))
      have HV4 := hide hv4
      clear k4 hv4 c1 HK3 HN3 HG3 HZ3
      obtain ⟨av, nv, cv, rfl, _⟩ := id (unhide HV4)
      go_wp2_with (first
        | (refine wpList_load_row rfl 28 _ rfl w2.heap.size rfl _ (brow (keyS z key)) (0, 0) _ (unhide HN4) Tryz.underlying28 rfl (unhide HSZ) ?_)
        | (refine wpList_load_row rfl 26 _ rfl w.heap.size rfl _ #[.slice sa sn sc, .slice pa pn pc] (0, 0) _ (unhide HG4) Tryz.underlying26 rfl (by kernel_rfl) ?_))
      refine Calls.mono (climb_any z (keyS z key) _ _ ss ps _ hw (unhide HDG) ((unhide HS).old (unhide HK4)) ((unhide HP).old (unhide HK4)) ((unhide HT).k (unhide HK4)) hpb (unhide HKL) (unhide HFIT)) ?_
      rintro e w5 ⟨rfl, k5⟩
      have HDG2 := hide (cliD_dg z (keyS z key) ss (footN ss ps) _ (footD_dg z ss ps))
      generalize cliD z (keyS z key) ss (footN ss ps) (footD z ss ps) = D at HD HDG2 ⊢
      have hd2 := (unhide HDG2).1
      have HSZ2 := hide (Tryz.szD hd2)
      have HZ5 := hide (k5.heap (unhide HZ4) (by simp))
      have HV5 := hide ((unhide HV4).old k5 (by simp))
      have HKF := hide (((unhide HK4).trans k5 (by simp)).setRow (g := w.heap.size + 1) (Or.inr (by omega)) (brow D))
      have HVF := hide ((unhide HV5).kept ((Kept.refl [w.heap.size + 1] w5).setRow (g := w.heap.size + 1) (Or.inl (by simp)) (brow D)) (fun x hx => by simp; exact unhide HB4 x hx))
      have HZF := hide (setRow_heap w5 (w.heap.size + 1) (zb 32) (brow D) 28 (0, 0) (unhide HZ5))
      clear k5 HZ4 HN4 HG4 HK4
      go_wp2_with (refine wpList_store_row rfl 28 _ _ rfl (w.heap.size + 1) (brow D) rfl rfl _ (zb 32) (unhide HZ5) (unhide HSZ2) (by rw [zb_size, brow_size, hd2]) (brow_one _) ?_)
      rw [unhide HD, unhide HV, unhide HE2]
      refine bodyPost_ret (v := .tuple #[.agg (brow D), .slice av nv cv, .bool (valH key ps).isSome, .int .i64 0]) ?_ rfl ⟨⟨_, rfl, unhide HVF⟩, unhide HKF⟩
      exact results_cell_tmp3 rfl _ _ (w.heap.size + 1) _ (brow D) (0, 0) _ rfl (unhide HZF) Tryz.underlying28 rfl (unhide HSZ2) _ _ _ rfl rfl rfl
  · have HE := hide (by unfold rtE; rw [if_neg hf] : rtE z key ss ps = hfE z key [] ss)
    have HD := hide (by unfold rtD; rw [unhide HE, if_neg hf] : rtD z key ss ps = List.replicate 32 0)
    have HV := hide (by unfold rtV; rw [unhide HE, if_neg hf] : rtV z key ss ps = none)
    have hf' : ¬ (hfE z key [] ss : Int) = 0 := by omega
    generalize hfE z key [] ss = F at HE hf' ⊢
    clear hf
    go_wp2_with (first
      | (rw [zb32]; refine wpList_store_row rfl 28 _ _ rfl (w.heap.size + 1) (zb 32) rfl rfl _ (zb 32) (unhide HZ1) (by rw [zb_size]; exact Tryz.size_dig) rfl (brow_one _) ?_))
    have HKF := hide ((unhide HK1).setRow (g := w.heap.size + 1) (Or.inr (by omega)) (zb 32))
    have HZF := hide (setRow_heap w1 (w.heap.size + 1) (zb 32) (zb 32) 28 (0, 0) (unhide HZ1))
    rw [unhide HD, unhide HV, unhide HE]
    refine bodyPost_ret (v := .tuple #[.agg (zb 32), .slice none 0 0, .bool false, .int .i64 (F : Int)]) ?_ rfl ⟨⟨_, rfl, Rd.nil _⟩, unhide HKF⟩
    exact results_cell_tmp3 rfl _ _ (w.heap.size + 1) _ (zb 32) (0, 0) _ rfl (unhide HZF) Tryz.underlying28 rfl (by rw [zb_size]; exact Tryz.size_dig) _ _ _ rfl rfl rfl
end Go.Proofs.YtjafmnemobcipaaGreatDoor
namespace Go.Proofs.YtjafmnemobcipaaGreatDoor
open Go.RowKit Go.BigFrame
set_option linter.unusedVariables false
set_option linter.unusedSimpArgs false

def ckE (z : Int) (root key : List Nat) (ss : List (Nat × List (List Nat))) (ps : List (List Nat × List Nat)) : Nat :=
  if hfE z key [root] ss = 0 then (if rtE z key ss ps = 0 then (if rtD z key ss ps = root then 0 else 10) else rtE z key ss ps) else hfE z key [root] ss
def ckV (z : Int) (root key : List Nat) (ss : List (Nat × List (List Nat))) (ps : List (List Nat × List Nat)) : Option (List Nat) := if ckE z root key ss ps = 0 then rtV z key ss ps else none
theorem rtD_dg (z : Int) (key : List Nat) (ss : List (Nat × List (List Nat))) (ps : List (List Nat × List Nat)) : Dg (rtD z key ss ps) := by
  unfold rtD
  split
  · exact cliD_dg _ _ _ _ _ (footD_dg _ _ _)
  · exact ⟨by simp, fun x hx => by simp at hx; omega⟩

set_option maxRecDepth 100000 in
set_option maxHeartbeats 4000000 in
theorem hcheck_any (z : Int) (root : List Nat) (kv : Value) (key : List Nat) (sv pv : Value) (ss : List (Nat × List (List Nat))) (ps : List (List Nat × List Nat)) (w : World) (hz : -9223372036854775808 ≤ z ∧ z ≤ 9223372036854775807) (hr : Dg root) (hk : Rd w kv key) (hs : RdS w sv ss) (hp : RdK w pv ps) (hT : Tabs w) (hpb : (pairB ps).length ≤ 1000000000000)
    (hsl : ss.length ≤ 1000000000000) (hpl : ps.length ≤ 1000000000000) (hkl : ∀ s ∈ ss, s.2.length ≤ 1000000000) :
    Calls Tryz.prog 5 #[.int .i64 z, .agg (brow root), kv, .agg #[sv, pv]] w fun e w' => (∃ v', e = .returned (.tuple #[v', .bool (ckV z root key ss ps).isSome, .int .i64 (ckE z root key ss ps : Int)]) ∧ Rd w' v' ((ckV z root key ss ps).getD [])) ∧ Kept [] w w' := by
  obtain ⟨sa, sn, sc, vs0, rfl, _⟩ := id hs
  obtain ⟨pa, pn, pc, _, _, rfl, _⟩ := id hp
  obtain ⟨ka, kn, kc, rfl, hkn, _⟩ := id hk
  have HP := hide hp
  have HS := hide hs
  have HT := hide hT
  have HKY := hide hk
  have HKL := hide hkl
  have HR := hide hr
  have hrl := hr.1
  have HSR := hide (Tryz.szD hrl)
  clear hp hs hT hkl hk hr
  have HK0 := hide (((Kept.refl [] w).alloc (.cells (brow root) 28)).alloc (.cells #[.slice sa sn sc, .slice pa pn pc] 26))
  have HR0 := hide (heap_alloc2_old w (.cells (brow root) 28) (.cells #[.slice sa sn sc, .slice pa pn pc] 26))
  have HG0 := hide (heap_alloc2_new w (.cells (brow root) 28) (.cells #[.slice sa sn sc, .slice pa pn pc] 26))
  obtain ⟨W, hW⟩ : ∃ W, (w.alloc (.cells (brow root) 28)).alloc (.cells #[.slice sa sn sc, .slice pa pn pc] 26) = W := ⟨_, rfl⟩
  rw [hW] at HK0 HG0 HR0
  have c0 : W.cell? ⟨w.heap.size + 1, 0, none⟩ = some (.slice sa sn sc) := cell_of_row W (w.heap.size + 1) 0 _ _ _ (unhide HG0)
  go_enter Tryz.func5, Tryz.ntmps5
  have hfs : ∀ A : Array Value, (List.foldl (fun cs x => cs.setIfInBounds x.snd x.fst) A (List.map u8 root).zipIdx).size = A.size := fun A => fold_size _ A 0
  go_wp2_with (refine wpList_load_mid rfl 28 _ rfl w.heap.size 0 rfl (root.map u8) _ (range_row (unhide HR0)) Tryz.underlying28 rfl (by rw [List.length_map, hrl]; exact Tryz.size_dig) ?_)
  rw [zb32, one_dig root hrl]
  clear hW hfs
  have kA := (Kept.refl [] W).alloc (.cells (brow root) 28)
  have HRD := hide (RdD.one (heap_alloc_new W (.cells (brow root) 28)) (unhide HR))
  have HKA := hide ((unhide HK0).trans kA (by simp))
  have HRA := hide (kA.heap (unhide HR0) (by simp))
  have HGA := hide (kA.heap (unhide HG0) (by simp))
  refine Calls.mono (hformed_any z _ key _ ss _ [root] _ hz ((unhide HKY).old (unhide HKA) (by simp)) ((unhide HS).old (unhide HKA)) (unhide HRD)) ?_
  rintro e w1 ⟨rfl, k1⟩
  have HK1 := hide ((unhide HKA).trans k1 (by simp))
  have HR1 := hide (k1.heap (unhide HRA) (by simp))
  have HG1 := hide (k1.heap (unhide HGA) (by simp))
  clear k1 kA c0 HK0 HR0 HG0 HRD HKA HRA HGA
  by_cases hf : hfE z key [root] ss = 0
  · have HE := hide (by unfold ckE; rw [if_pos hf] : ckE z root key ss ps = if rtE z key ss ps = 0 then (if rtD z key ss ps = root then 0 else 10) else rtE z key ss ps)
    rw [hf]
    clear hf
    go_wp2_with (refine wpList_load_row rfl 26 _ rfl (w.heap.size + 1) rfl _ #[.slice sa sn sc, .slice pa pn pc] (0, 0) _ (unhide HG1) Tryz.underlying26 rfl (by kernel_rfl) ?_)
    refine Calls.mono (hrootOf_any z _ key _ _ ss ps _ hz ((unhide HKY).old (unhide HK1) (by simp)) ((unhide HS).old (unhide HK1)) ((unhide HP).old (unhide HK1)) ((unhide HT).k (unhide HK1)) hpb hsl hpl (unhide HKL)) ?_
    rintro e w2 ⟨⟨v2, rfl, hv2⟩, k2⟩
    have HDG := hide (rtD_dg z key ss ps)
    have HV2 := hide hv2
    obtain ⟨av, nv, cv, rfl, _⟩ := id hv2
    clear hv2
    have HCV := hide (by unfold ckV; rfl : ckV z root key ss ps = if ckE z root key ss ps = 0 then rtV z key ss ps else none)
    generalize rtD z key ss ps = D at HDG HE ⊢
    generalize rtE z key ss ps = E at HE ⊢
    generalize rtV z key ss ps = V at HV2 HCV ⊢
    have hd := (unhide HDG).1
    have HSZ := hide (Tryz.szD hd)
    have kN := (k2.alloc (.cells (zb 32) 28)).setRow (g := w2.heap.size) (Or.inr k2.size) (brow D)
    have HN2 := hide (setRow_heap (w2.alloc (.cells (zb 32) 28)) w2.heap.size (zb 32) (brow D) 28 (0, 0) (heap_alloc_new _ _))
    have HK2 := hide ((unhide HK1).trans kN (by simp))
    have HR2 := hide (kN.heap (unhide HR1) (by simp))
    have HVN := hide ((unhide HV2).old (((Kept.refl [] w2).alloc (.cells (zb 32) 28)).setRow (g := w2.heap.size) (Or.inr (Nat.le_refl _)) (brow D)) (by simp))
    clear kN k2 HK1 HR1 HG1 HV2
    by_cases hE : E = 0
    · have heq := fun W => dig_eq W D root hd hrl
      by_cases hDr : D = root
      · have HE2 := hide (by rw [unhide HE, if_pos hE, if_pos hDr] : ckE z root key ss ps = 0)
        rw [decide_eq_true hDr] at heq
        subst hE
        clear hDr
        go_wp2_with (first
          | (rw [zb32]; refine wpList_store_row rfl 28 _ _ rfl w2.heap.size (brow D) rfl rfl _ (zb 32) (heap_alloc_new _ _) (unhide HSZ) (by rw [zb_size, brow_size, hd]) (brow_one _) ?_)
          | (refine wpList_load_row rfl 28 _ rfl w2.heap.size rfl _ (brow D) (0, 0) _ (unhide HN2) Tryz.underlying28 rfl (unhide HSZ) ?_)
          | (refine wpList_load_row rfl 28 _ rfl w.heap.size rfl _ (brow root) (0, 0) _ (unhide HR2) Tryz.underlying28 rfl (unhide HSR) ?_))
        go_ret3
        rw [unhide HCV, unhide HE2]
        exact ⟨⟨_, rfl, unhide HVN⟩, unhide HK2⟩
      · have HE2 := hide (by rw [unhide HE, if_pos hE, if_neg hDr] : ckE z root key ss ps = 10)
        rw [decide_eq_false hDr] at heq
        subst hE
        clear hDr
        go_wp2_with (first
          | (rw [zb32]; refine wpList_store_row rfl 28 _ _ rfl w2.heap.size (brow D) rfl rfl _ (zb 32) (heap_alloc_new _ _) (unhide HSZ) (by rw [zb_size, brow_size, hd]) (brow_one _) ?_)
          | (refine wpList_load_row rfl 28 _ rfl w2.heap.size rfl _ (brow D) (0, 0) _ (unhide HN2) Tryz.underlying28 rfl (unhide HSZ) ?_)
          | (refine wpList_load_row rfl 28 _ rfl w.heap.size rfl _ (brow root) (0, 0) _ (unhide HR2) Tryz.underlying28 rfl (unhide HSR) ?_))
        go_ret3
        rw [unhide HCV, unhide HE2]
        exact ⟨⟨_, rfl, Rd.nil _⟩, unhide HK2⟩
    · have HE2 := hide (by rw [unhide HE, if_neg hE] : ckE z root key ss ps = E)
      have hE' : ¬ (E : Int) = 0 := by omega
      have HEE := hide hE
      clear hE
      go_wp2_with (rw [zb32]; refine wpList_store_row rfl 28 _ _ rfl w2.heap.size (brow D) rfl rfl _ (zb 32) (heap_alloc_new _ _) (unhide HSZ) (by rw [zb_size, brow_size, hd]) (brow_one _) ?_)
      go_ret3
      rw [unhide HCV, unhide HE2, if_neg (unhide HEE)]
      exact ⟨⟨_, rfl, Rd.nil _⟩, unhide HK2⟩
  · have HE := hide (by unfold ckE; rw [if_neg hf] : ckE z root key ss ps = hfE z key [root] ss)
    have HV := hide (by unfold ckV; rw [unhide HE, if_neg hf] : ckV z root key ss ps = none)
    have hf' : ¬ (hfE z key [root] ss : Int) = 0 := by omega
    generalize hfE z key [root] ss = F at HE hf' ⊢
    clear hf
    go_wp2
    go_ret3
    rw [unhide HV, unhide HE]
    exact ⟨⟨_, rfl, Rd.nil _⟩, unhide HK1⟩
end Go.Proofs.YtjafmnemobcipaaGreatDoor
namespace Go.Proofs.YtjafmnemobcipaaGreatDoor
open Go.RowKit Go.BigFrame
set_option linter.unusedVariables false
set_option linter.unusedSimpArgs false

theorem cutL_idem {k : Nat} {d : List Nat} (hk : k ≤ 32) (hd : d.length = 32) : cutL k (cutL k d) = cutL k d := by
  unfold cutL
  rw [List.take_append_of_le_length (by simp; omega), List.take_take, Nat.min_self]
theorem sumD_form {z : Int} (hw : widthB z = true) (p : List Nat) : formB z (sumD z p) = true := by
  unfold formB sumD
  have h := width_le hw
  rw [hw]
  simp only [if_true, Bool.true_and]
  rw [cutL_idem (by omega) (hash_len _)]
  simp
theorem zero_form {z : Int} (hw : widthB z = true) : formB z (List.replicate 32 0) = true := by
  unfold formB cutL
  have h := width_le hw
  rw [hw]
  simp only [Bool.true_and, decide_eq_true_eq, List.take_replicate]
  rw [List.replicate_append_replicate, show min z.toNat 32 + (32 - z.toNat) = 32 by omega]
theorem sunD_form {z : Int} (hw : widthB z = true) (e : Nat) (p : List Nat) : formB z (sunD e z p) = true := by
  unfold sunD
  split
  · exact sumD_form hw p
  · exact zero_form hw
theorem footD_form {z : Int} (hw : widthB z = true) (ss : List (Nat × List (List Nat))) (ps : List (List Nat × List Nat)) : formB z (footD z ss ps) = true := by
  unfold footD brD
  split
  · exact sumD_form hw _
  · split
    · exact sumD_form hw _
    · exact sunD_form hw _ _
theorem cliD_form {z : Int} (hw : widthB z = true) (ks : List Nat) (ss : List (Nat × List (List Nat))) : ∀ (k : Nat) (d : List Nat), formB z d = true → formB z (cliD z ks ss k d) = true
  | 0, d, h => h
  | k + 1, d, h => by rw [cliD]; exact cliD_form hw ks ss k _ (sunD_form hw _ _)
theorem rtE_zero {z : Int} {key : List Nat} {ss : List (Nat × List (List Nat))} {ps : List (List Nat × List Nat)} (h : rtE z key ss ps = 0) : hfE z key [] ss = 0 ∧ provB z (keyS z key) ss ps = true := by
  unfold rtE at h
  by_cases hf : hfE z key [] ss = 0
  · rw [if_pos hf] at h
    cases hp : provB z (keyS z key) ss ps with
    | true => exact ⟨hf, rfl⟩
    | false => rw [hp] at h; simp at h
  · rw [if_neg hf] at h; exact absurd h hf
theorem rtE_mk {z : Int} {key : List Nat} {ss : List (Nat × List (List Nat))} {ps : List (List Nat × List Nat)} (hf : hfE z key [] ss = 0) (hp : provB z (keyS z key) ss ps = true) : rtE z key ss ps = 0 := by
  unfold rtE; rw [if_pos hf, hp]; rfl
theorem rtD_form {z : Int} {key : List Nat} {ss : List (Nat × List (List Nat))} {ps : List (List Nat × List Nat)} (h : rtE z key ss ps = 0) : formB z (rtD z key ss ps) = true := by
  have hw := (hfE_zero (rtE_zero h).1).1
  unfold rtD
  rw [if_pos h]
  exact cliD_form hw _ _ _ _ (footD_form hw _ _)
theorem hfE_root {z : Int} {key r : List Nat} {ss : List (Nat × List (List Nat))} (h : hfE z key [] ss = 0) : hfE z key [r] ss = if formB z r then 0 else 3 := by
  obtain ⟨h1, h2⟩ := hfE_zero h
  unfold hfE at h ⊢
  rw [if_neg (by simp [h1]), if_neg (by omega)] at h ⊢
  have h3 : ss.all (fun s => s.2.all (formB z)) = true := by
    by_cases h9 : ss.all (fun s => s.2.all (formB z)) = true
    · exact h9
    · rw [if_neg (by simpa using h9)] at h; omega
  rw [h3]
  simp
theorem agr_bad {z : Int} {key r : List Nat} {ss : List (Nat × List (List Nat))} {ps : List (List Nat × List Nat)} (h : rtE z key ss ps ≠ 0) : ckE z r key ss ps ≠ 0 := by
  unfold ckE
  split
  · first
    | exact h
    | (rw [if_neg h]; exact h)
  · assumption
theorem agr_eq {z : Int} {key r : List Nat} {ss : List (Nat × List (List Nat))} {ps : List (List Nat × List Nat)} (h : rtE z key ss ps = 0) : ckE z r key ss ps = if formB z r then (if rtD z key ss ps = r then 0 else 10) else 3 := by
  unfold ckE
  rw [hfE_root (rtE_zero h).1]
  cases formB z r with
  | true => simp [h]
  | false => simp
theorem agr_ok {z : Int} {key : List Nat} {ss : List (Nat × List (List Nat))} {ps : List (List Nat × List Nat)} (h : rtE z key ss ps = 0) : ckE z (rtD z key ss ps) key ss ps = 0 := by
  rw [agr_eq h, rtD_form h]; simp

theorem comL_le (a b : List Nat) : ∀ (n i m : Nat), m ≤ i + n → ((∀ j, i ≤ j → j < m → dgt a j = dgt b j) → m ≤ comL a b n i ∨ m ≤ i) ∧ (m ≤ comL a b n i → ∀ j, i ≤ j → j < m → dgt a j = dgt b j)
  | 0, i, m, hm => ⟨fun _ => Or.inr (by omega), fun _ j h1 h2 => by omega⟩
  | n + 1, i, m, hm => by
    rw [comL]
    by_cases h : dgt a i = dgt b i
    · rw [if_pos h]
      have ih := comL_le a b n (i + 1) m (by omega)
      refine ⟨fun h9 => ?_, fun h9 j h1 h2 => ?_⟩
      · rcases ih.1 (fun j h1 h2 => h9 j (by omega) h2) with h8 | h8
        · exact Or.inl h8
        · have : i + 1 ≤ comL a b n (i + 1) := by
            clear ih h9 h8 hm
            induction n generalizing i with
            | zero => exact Nat.le_refl _
            | succ n ih2 =>
              rw [comL]
              split
              · rename_i h7
                exact Nat.le_of_succ_le (ih2 (i + 1) h7)
              · exact Nat.le_refl _
          omega
      · rcases Nat.lt_or_ge i j with h8 | h8
        · exact ih.2 h9 j (by omega) h2
        · obtain rfl : i = j := by omega
          exact h
    · rw [if_neg h]
      refine ⟨fun h9 => ?_, fun h9 j h1 h2 => by omega⟩
      rcases Nat.lt_or_ge i m with h8 | h8
      · exact absurd (h9 i (Nat.le_refl _) h8) h
      · exact Or.inr h8
theorem comC_digits {z : Int} {a b : List Nat} (hw : widthB z = true) (ha : formB z a = true) (hb : formB z b = true) {m : Nat} (hm : m ≤ 2 * z.toNat) : m ≤ comC z a b ↔ ∀ j, j < m → dgt a j = dgt b j := by
  have h0 : formedE z [a, b] = 0 := by simp [formedE, hw, ha, hb]
  unfold comC
  rw [if_pos h0]
  have h := comL_le a b (2 * z.toNat) 0 m (by omega)
  refine ⟨fun h9 j hj => h.2 h9 j (Nat.zero_le _) hj, fun h9 => ?_⟩
  rcases h.1 (fun j _ hj => h9 j hj) with h8 | h8 <;> omega
theorem atC_dgt {z : Int} {d : List Nat} (hw : widthB z = true) (hd : formB z d = true) {i : Nat} (hi : i < 2 * z.toNat) : atC z d (i : Int) = dgt d i := by
  have h9 := width_le hw
  have h0 : atE z d (i : Int) = 0 := by
    unfold atE
    rw [if_neg (by simp [hw]; omega), hd]
    rfl
  unfold atC
  rw [if_pos h0, Int.toNat_natCast]
theorem keyS_form {z : Int} (hw : widthB z = true) (key : List Nat) : formB z (keyS z key) = true := sumD_form hw _
theorem fitsB_same {z : Int} {ks kt : List Nat} {ss : List (Nat × List (List Nat))} {m : Nat} : ∀ (n : Nat), (∀ i, i < n → atC z ks (i : Int) = atC z kt (i : Int)) → fitsB z ks ss m n = fitsB z kt ss m n
  | 0, _ => rfl
  | n + 1, h => by rw [fitsB, fitsB, fitsB_same n (fun i hi => h i (by omega)), h n (by omega)]
theorem cliD_same {z : Int} {ks kt : List Nat} {ss : List (Nat × List (List Nat))} : ∀ (n : Nat) (d : List Nat), (∀ i, i < n → atC z ks (i : Int) = atC z kt (i : Int)) → cliD z ks ss n d = cliD z kt ss n d
  | 0, _, _ => rfl
  | n + 1, d, h => by rw [cliD, cliD, h n (by omega), cliD_same n _ (fun i hi => h i (by omega))]
theorem oth {z : Int} {key other : List Nat} {ss : List (Nat × List (List Nat))} {ps : List (List Nat × List Nat)} (h : rtE z key ss ps = 0) (hp : ps.length ≠ 0) (ho : other.length ≤ 64) (hc : ss.length ≤ comC z (keyS z key) (keyS z other)) : rtE z other ss ps = 0 ∧ rtD z other ss ps = rtD z key ss ps := by
  obtain ⟨hf, hv⟩ := rtE_zero h
  obtain ⟨hw, hk⟩ := hfE_zero hf
  have fa := keyS_form hw key
  have fb := keyS_form hw other
  have hv0 := hv
  unfold provB at hv
  simp only [Bool.and_eq_true, decide_eq_true_eq] at hv
  obtain ⟨hl, hfit, hrest⟩ := hv
  have hd := (comC_digits hw fa fb hl).1 hc
  have hat : ∀ i, i < ss.length → atC z (keyS z other) (i : Int) = atC z (keyS z key) (i : Int) := fun i hi => by
    rw [atC_dgt hw fb (by omega), atC_dgt hw fa (by omega), hd i hi]
  have hfo : hfE z other [] ss = 0 := by
    unfold hfE at hf ⊢
    rw [if_neg (by simp [hw]), if_neg (by omega)] at hf ⊢
    exact hf
  have hpo : provB z (keyS z other) ss ps = true := by
    unfold provB
    simp only [Bool.and_eq_true, decide_eq_true_eq]
    refine ⟨hl, by rw [fitsB_same ss.length hat]; exact hfit, ?_⟩
    rw [decide_eq_false hp] at hrest ⊢
    simp only [Bool.false_or, Bool.and_eq_true] at hrest ⊢
    refine ⟨hrest.1, hrest.2.1, ?_⟩
    have h9 := hrest.2.2
    unfold hanB at h9 ⊢
    simp only [Bool.and_eq_true, decide_eq_true_eq] at h9 ⊢
    refine ⟨h9.1, ?_⟩
    have fc := keyS_form hw (ps.getD 0 ([], [])).1
    have h8 := (comC_digits hw fc fa hl).1 h9.2
    exact (comC_digits hw fc fb hl).2 (fun j hj => (h8 j hj).trans (hd j hj))
  have ho2 := rtE_mk hfo hpo
  refine ⟨ho2, ?_⟩
  unfold rtD rooD
  rw [if_pos h, if_pos ho2]
  exact cliD_same _ _ (fun i hi => hat i (by unfold footN at hi; split at hi <;> omega))
end Go.Proofs.YtjafmnemobcipaaGreatDoor
namespace Go.Proofs.YtjafmnemobcipaaGreatDoor
open Go.RowKit Go.BigFrame
set_option linter.unusedVariables false
set_option linter.unusedSimpArgs false

theorem sumD_nat {k : Nat} (hk : 1 ≤ k ∧ k ≤ 32) (p : List Nat) : sumD (k : Int) p = cutL k (hash p) := by
  unfold sumD
  rw [if_pos (by simp [widthB]; omega), Int.toNat_natCast]

set_option maxRecDepth 100000 in
set_option maxHeartbeats 1000000 in
theorem refKey_any (k : Nat) (v : Value) (p : List Nat) (w : World) (hk : 1 ≤ k ∧ k ≤ 32) (h : Rd w v p) (hl : p.length ≤ 140737488351232) :
    Calls Tryz.prog 28 #[.int .i64 k, v] w fun e w' => e = .returned (.agg (brow (sumD (k : Int) (2 :: p)))) ∧ Kept [] w w' := by
  rw [sumD_nat hk]
  have hcl := cutL_len k (hash (2 :: p)) hk.2 (hash_len _)
  obtain ⟨C, hC⟩ : ∃ C, cutL k (hash (2 :: p)) = C := ⟨_, rfl⟩
  rw [hC] at hcl ⊢
  have HC := hide hC
  clear hC
  have HH := hide h
  clear h
  have HS2 := hide (by rw [brow_size, hcl]; exact Tryz.size_dig : (Tryz.prog.info? 28).map (·.size) = some (brow C).size)
  go_enter Tryz.func28, Tryz.ntmps28
  go_wp2_with fail
  rw [zb32]
  have k0 := (Kept.refl [] w).alloc (.cells (zb 32) 28)
  refine Calls.mono (refKeyInput_any _ p _ ((unhide HH).old k0 (by simp)) hl) ?_
  rintro e w1 ⟨v1, rfl, r1, k1⟩
  have HR1 := hide r1
  have HK1 := hide (k0.trans k1 (by simp))
  have HZ1 := hide (k1.heap (heap_alloc_new w (.cells (zb 32) 28)) (by simp))
  clear r1 k1 k0
  go_wp2_with fail
  refine Calls.mono (refCut_any k _ _ _ (unhide HR1) hk.2) ?_
  rintro e w2 ⟨rfl, k2⟩
  rw [unhide HC]
  have HZ2 := hide (k2.heap (unhide HZ1) (by simp))
  have HK2 := hide ((unhide HK1).trans k2 (by simp))
  clear k2
  go_wp2_with (refine wpList_store_row rfl 28 _ _ rfl w.heap.size (brow C) rfl rfl _ (zb 32) (unhide HZ2) (unhide HS2) (by rw [zb_size, brow_size, hcl]) (brow_one _) ?_)
  refine bodyPost_ret (v := .agg (brow C)) ?_ rfl ⟨rfl, (unhide HK2).setRow (by simp) _⟩
  exact results_cell_row rfl _ _ w.heap.size _ (brow C) (0, 0) _ rfl (setRow_heap _ _ _ _ _ _ (unhide HZ2)) Tryz.underlying28 rfl (unhide HS2)

set_option maxRecDepth 100000 in
set_option maxHeartbeats 1000000 in
theorem refBucket_any (k : Nat) (v : Value) (ps : List (List Nat × List Nat)) (w : World) (hk : 1 ≤ k ∧ k ≤ 32) (h : RdK w v ps) (hl : (pairB ps).length ≤ 1000000000000) :
    Calls Tryz.prog 12 #[.int .i64 k, v] w fun e w' => e = .returned (.agg (brow (sumD (k : Int) (buckB ps)))) ∧ Kept [] w w' := by
  rw [sumD_nat hk]
  have hcl := cutL_len k (hash (buckB ps)) hk.2 (hash_len _)
  obtain ⟨C, hC⟩ : ∃ C, cutL k (hash (buckB ps)) = C := ⟨_, rfl⟩
  rw [hC] at hcl ⊢
  have HC := hide hC
  clear hC
  have HH := hide h
  clear h
  have HS2 := hide (by rw [brow_size, hcl]; exact Tryz.size_dig : (Tryz.prog.info? 28).map (·.size) = some (brow C).size)
  go_enter Tryz.func12, Tryz.ntmps12
  go_wp2_with fail
  rw [zb32]
  have k0 := (Kept.refl [] w).alloc (.cells (zb 32) 28)
  refine Calls.mono (refBucketInput_any _ ps _ ((unhide HH).old k0) hl) ?_
  rintro e w1 ⟨v1, rfl, r1, k1⟩
  have HR1 := hide r1
  have HK1 := hide (k0.trans k1 (by simp))
  have HZ1 := hide (k1.heap (heap_alloc_new w (.cells (zb 32) 28)) (by simp))
  clear r1 k1 k0
  go_wp2_with fail
  refine Calls.mono (refCut_any k _ _ _ (unhide HR1) hk.2) ?_
  rintro e w2 ⟨rfl, k2⟩
  rw [unhide HC]
  have HZ2 := hide (k2.heap (unhide HZ1) (by simp))
  have HK2 := hide ((unhide HK1).trans k2 (by simp))
  clear k2
  go_wp2_with (refine wpList_store_row rfl 28 _ _ rfl w.heap.size (brow C) rfl rfl _ (zb 32) (unhide HZ2) (unhide HS2) (by rw [zb_size, brow_size, hcl]) (brow_one _) ?_)
  refine bodyPost_ret (v := .agg (brow C)) ?_ rfl ⟨rfl, (unhide HK2).setRow (by simp) _⟩
  exact results_cell_row rfl _ _ w.heap.size _ (brow C) (0, 0) _ rfl (setRow_heap _ _ _ _ _ _ (unhide HZ2)) Tryz.underlying28 rfl (unhide HS2)

set_option maxRecDepth 100000 in
set_option maxHeartbeats 1000000 in
theorem refBranch_any (k : Nat) (x : Nat) (v : Value) (ds : List (List Nat)) (w : World) (hk : 1 ≤ k ∧ k ≤ 32) (hx : x < 65536) (h : RdD w v ds) (hl : ds.length ≤ 16) :
    Calls Tryz.prog 57 #[.int .i64 k, .int .u16 x, v] w fun e w' => e = .returned (.agg (brow (sumD (k : Int) (branchB (k : Int) x ds)))) ∧ Kept [] w w' := by
  rw [sumD_nat hk]
  have hcl := cutL_len k (hash (branchB (k : Int) x ds)) hk.2 (hash_len _)
  obtain ⟨C, hC⟩ : ∃ C, cutL k (hash (branchB (k : Int) x ds)) = C := ⟨_, rfl⟩
  rw [hC] at hcl ⊢
  have HC := hide hC
  clear hC
  have HH := hide h
  clear h
  have HS2 := hide (by rw [brow_size, hcl]; exact Tryz.size_dig : (Tryz.prog.info? 28).map (·.size) = some (brow C).size)
  go_enter Tryz.func57, Tryz.ntmps57
  go_wp2_with fail
  rw [zb32]
  have k0 := (Kept.refl [] w).alloc (.cells (zb 32) 28)
  refine Calls.mono (refBranchInput_any k x _ ds _ hk.2 hx ((unhide HH).old k0) hl) ?_
  rintro e w1 ⟨v1, rfl, r1, k1⟩
  have HR1 := hide r1
  have HK1 := hide (k0.trans k1 (by simp))
  have HZ1 := hide (k1.heap (heap_alloc_new w (.cells (zb 32) 28)) (by simp))
  clear r1 k1 k0
  go_wp2_with fail
  refine Calls.mono (refCut_any k _ _ _ (unhide HR1) hk.2) ?_
  rintro e w2 ⟨rfl, k2⟩
  rw [unhide HC]
  have HZ2 := hide (k2.heap (unhide HZ1) (by simp))
  have HK2 := hide ((unhide HK1).trans k2 (by simp))
  clear k2
  go_wp2_with (refine wpList_store_row rfl 28 _ _ rfl w.heap.size (brow C) rfl rfl _ (zb 32) (unhide HZ2) (unhide HS2) (by rw [zb_size, brow_size, hcl]) (brow_one _) ?_)
  refine bodyPost_ret (v := .agg (brow C)) ?_ rfl ⟨rfl, (unhide HK2).setRow (by simp) _⟩
  exact results_cell_row rfl _ _ w.heap.size _ (brow C) (0, 0) _ rfl (setRow_heap _ _ _ _ _ _ (unhide HZ2)) Tryz.underlying28 rfl (unhide HS2)
end Go.Proofs.YtjafmnemobcipaaGreatDoor
/-
  Laws for drawn regions, by genreg.py. No program.
-/
namespace Go.Proofs.YtjafmnemobcipaaGreatDoor
open Go Go.RowKit Go.BigFrame
set_option linter.unusedVariables false
set_option linter.unusedSimpArgs false
section
variable {P : Program} {Q : Exit → Act → World → Prop}
theorem wp_haw14 {id : Nat} {o0 o1 o2 o3 o4 o5 o6 o7 o8 o9 o10 o11 o12 o13 : Oper} {a : Act} {w : World} (hm : P.follows .mixedOrders = true) (hs : Region.noSelect #[o0, o1, o2, o3, o4, o5, o6, o7, o8, o9, o10, o11, o12, o13] = true)
    (f0 : Region.free .any #[o0, o1, o2, o3, o4, o5, o6, o7, o8, o9, o10, o11, o12, o13] #[false, false, false, false, false, false, false, false, false, false, false, false, false, false] 0 = true) (r0 : (Region.ready .any #[o0, o1, o2, o3, o4, o5, o6, o7, o8, o9, o10, o11, o12, o13] #[false, false, false, false, false, false, false, false, false, false, false, false, false, false]).contains 0 = true)
    (f1 : Region.free .any #[o0, o1, o2, o3, o4, o5, o6, o7, o8, o9, o10, o11, o12, o13] #[true, false, false, false, false, false, false, false, false, false, false, false, false, false] 1 = true) (r1 : (Region.ready .any #[o0, o1, o2, o3, o4, o5, o6, o7, o8, o9, o10, o11, o12, o13] #[true, false, false, false, false, false, false, false, false, false, false, false, false, false]).contains 1 = true)
    (f5 : Region.free .any #[o0, o1, o2, o3, o4, o5, o6, o7, o8, o9, o10, o11, o12, o13] #[true, true, false, false, false, false, false, false, false, false, false, false, false, false] 5 = true) (r5 : (Region.ready .any #[o0, o1, o2, o3, o4, o5, o6, o7, o8, o9, o10, o11, o12, o13] #[true, true, false, false, false, false, false, false, false, false, false, false, false, false]).contains 5 = true)
    (q_ : Region.ready .any #[o0, o1, o2, o3, o4, o5, o6, o7, o8, o9, o10, o11, o12, o13] #[true, true, false, false, false, true, false, false, false, false, false, false, false, false] = [2, 3])
    (q2_ : Region.ready .any #[o0, o1, o2, o3, o4, o5, o6, o7, o8, o9, o10, o11, o12, o13] #[true, true, true, false, false, true, false, false, false, false, false, false, false, false] = [3])
    (q3_ : Region.ready .any #[o0, o1, o2, o3, o4, o5, o6, o7, o8, o9, o10, o11, o12, o13] #[true, true, false, true, false, true, false, false, false, false, false, false, false, false] = [2, 4])
    (q2_3_ : Region.ready .any #[o0, o1, o2, o3, o4, o5, o6, o7, o8, o9, o10, o11, o12, o13] #[true, true, true, true, false, true, false, false, false, false, false, false, false, false] = [4])
    (q3_4_ : Region.ready .any #[o0, o1, o2, o3, o4, o5, o6, o7, o8, o9, o10, o11, o12, o13] #[true, true, false, true, true, true, false, false, false, false, false, false, false, false] = [2])
    (q2_3_4_ : Region.ready .any #[o0, o1, o2, o3, o4, o5, o6, o7, o8, o9, o10, o11, o12, o13] #[true, true, true, true, true, true, false, false, false, false, false, false, false, false] = [6])
    (f2_3_4_6_7 : Region.free .any #[o0, o1, o2, o3, o4, o5, o6, o7, o8, o9, o10, o11, o12, o13] #[true, true, true, true, true, true, true, false, false, false, false, false, false, false] 7 = true) (r2_3_4_6_7 : (Region.ready .any #[o0, o1, o2, o3, o4, o5, o6, o7, o8, o9, o10, o11, o12, o13] #[true, true, true, true, true, true, true, false, false, false, false, false, false, false]).contains 7 = true)
    (f2_3_4_6_8 : Region.free .any #[o0, o1, o2, o3, o4, o5, o6, o7, o8, o9, o10, o11, o12, o13] #[true, true, true, true, true, true, true, true, false, false, false, false, false, false] 8 = true) (r2_3_4_6_8 : (Region.ready .any #[o0, o1, o2, o3, o4, o5, o6, o7, o8, o9, o10, o11, o12, o13] #[true, true, true, true, true, true, true, true, false, false, false, false, false, false]).contains 8 = true)
    (f2_3_4_6_9 : Region.free .any #[o0, o1, o2, o3, o4, o5, o6, o7, o8, o9, o10, o11, o12, o13] #[true, true, true, true, true, true, true, true, true, false, false, false, false, false] 9 = true) (r2_3_4_6_9 : (Region.ready .any #[o0, o1, o2, o3, o4, o5, o6, o7, o8, o9, o10, o11, o12, o13] #[true, true, true, true, true, true, true, true, true, false, false, false, false, false]).contains 9 = true)
    (f2_3_4_6_10 : Region.free .any #[o0, o1, o2, o3, o4, o5, o6, o7, o8, o9, o10, o11, o12, o13] #[true, true, true, true, true, true, true, true, true, true, false, false, false, false] 10 = true) (r2_3_4_6_10 : (Region.ready .any #[o0, o1, o2, o3, o4, o5, o6, o7, o8, o9, o10, o11, o12, o13] #[true, true, true, true, true, true, true, true, true, true, false, false, false, false]).contains 10 = true)
    (f2_3_4_6_11 : Region.free .any #[o0, o1, o2, o3, o4, o5, o6, o7, o8, o9, o10, o11, o12, o13] #[true, true, true, true, true, true, true, true, true, true, true, false, false, false] 11 = true) (r2_3_4_6_11 : (Region.ready .any #[o0, o1, o2, o3, o4, o5, o6, o7, o8, o9, o10, o11, o12, o13] #[true, true, true, true, true, true, true, true, true, true, true, false, false, false]).contains 11 = true)
    (f2_3_4_6_12 : Region.free .any #[o0, o1, o2, o3, o4, o5, o6, o7, o8, o9, o10, o11, o12, o13] #[true, true, true, true, true, true, true, true, true, true, true, true, false, false] 12 = true) (r2_3_4_6_12 : (Region.ready .any #[o0, o1, o2, o3, o4, o5, o6, o7, o8, o9, o10, o11, o12, o13] #[true, true, true, true, true, true, true, true, true, true, true, true, false, false]).contains 12 = true)
    (f2_3_4_6_13 : Region.free .any #[o0, o1, o2, o3, o4, o5, o6, o7, o8, o9, o10, o11, o12, o13] #[true, true, true, true, true, true, true, true, true, true, true, true, true, false] 13 = true) (r2_3_4_6_13 : (Region.ready .any #[o0, o1, o2, o3, o4, o5, o6, o7, o8, o9, o10, o11, o12, o13] #[true, true, true, true, true, true, true, true, true, true, true, true, true, false]).contains 13 = true)
    (q2_3_4_6_ : Region.ready .any #[o0, o1, o2, o3, o4, o5, o6, o7, o8, o9, o10, o11, o12, o13] #[true, true, true, true, true, true, true, true, true, true, true, true, true, true] = [])
    (g2 : o2.guard = none)    (g3 : o3.guard = none)    (g4 : o4.guard = none)    (g6 : o6.guard = none)
    (ne3_2 : ∀ d, o3.dst = some d → o2.dst ≠ some d)
    (ne4_2 : ∀ d, o4.dst = some d → o2.dst ≠ some d)
    (v0 v1 v5 : Value) (A0 A1 A2 : Act)
    (S : World → Prop)
    (I_ : World → Prop)
    (I2_ : Value → World → Prop)
    (I3_ : Value → World → Prop)
    (I2_3_ : Value → Value → World → Prop)
    (I3_4_ : Value → Value → World → Prop)
    (I2_3_4_ : Value → Value → Value → World → Prop)
    (I2_3_4_6_ : Value → Value → Value → Value → World → Prop)
    (v7 : Value → Value)
    (v8 : Value → Value)
    (v9 : Value → Value)
    (v10 : Value → Value)
    (v11 : Value → Value)
    (v12 : Value → Value)
    (v13 : Value → Value)
    (p0 : a.put o0.dst v0 = A0) (hy0 : YieldsIf P #[o0, o1, o2, o3, o4, o5, o6, o7, o8, o9, o10, o11, o12, o13] S o0 v0 a)
    (p1 : A0.put o1.dst v1 = A1) (hy1 : YieldsIf P #[o0, o1, o2, o3, o4, o5, o6, o7, o8, o9, o10, o11, o12, o13] S o1 v1 A0)
    (p5 : A1.put o5.dst v5 = A2) (hy5 : YieldsIf P #[o0, o1, o2, o3, o4, o5, o6, o7, o8, o9, o10, o11, o12, o13] S o5 v5 A1)
    (i0 : I_ w.drew)
    (hIS : (∀ w', I_  w' → S w') ∧ (∀ (u2 : Value) w', I2_ u2 w' → S w') ∧ (∀ (u3 : Value) w', I3_ u3 w' → S w') ∧ (∀ (u2 u3 : Value) w', I2_3_ u2 u3 w' → S w') ∧ (∀ (u3 u4 : Value) w', I3_4_ u3 u4 w' → S w') ∧ (∀ (u2 u3 u4 : Value) w', I2_3_4_ u2 u3 u4 w' → S w') ∧ (∀ (u2 u3 u4 u6 : Value) w', I2_3_4_6_ u2 u3 u4 u6 w' → S w'))
    (s_2 : ∀ w', I_  w' → ∀ K : Act → World → Prop, (∀ (u2 : Value) w2, I2_ u2 w2 → K (A2.put o2.dst u2) w2) → o2.wp P A2 w' K (NoPanic Q))
    (s_3 : ∀ w', I_  w' → ∀ K : Act → World → Prop, (∀ (u3 : Value) w2, I3_ u3 w2 → K (A2.put o3.dst u3) w2) → o3.wp P A2 w' K (NoPanic Q))
    (s2_3 : ∀ (u2 : Value) w', I2_ u2 w' → ∀ K : Act → World → Prop, (∀ (u3 : Value) w2, I2_3_ u2 u3 w2 → K ((A2.put o2.dst u2).put o3.dst u3) w2) → o3.wp P (A2.put o2.dst u2) w' K (NoPanic Q))
    (s3_2 : ∀ (u3 : Value) w', I3_ u3 w' → ∀ K : Act → World → Prop, (∀ (u2 : Value) w2, I2_3_ u2 u3 w2 → K ((A2.put o3.dst u3).put o2.dst u2) w2) → o2.wp P (A2.put o3.dst u3) w' K (NoPanic Q))
    (s3_4 : ∀ (u3 : Value) w', I3_ u3 w' → ∀ K : Act → World → Prop, (∀ (u4 : Value) w2, I3_4_ u3 u4 w2 → K ((A2.put o3.dst u3).put o4.dst u4) w2) → o4.wp P (A2.put o3.dst u3) w' K (NoPanic Q))
    (s2_3_4 : ∀ (u2 u3 : Value) w', I2_3_ u2 u3 w' → ∀ K : Act → World → Prop, (∀ (u4 : Value) w2, I2_3_4_ u2 u3 u4 w2 → K (((A2.put o2.dst u2).put o3.dst u3).put o4.dst u4) w2) → o4.wp P ((A2.put o2.dst u2).put o3.dst u3) w' K (NoPanic Q))
    (s3_4_2 : ∀ (u3 u4 : Value) w', I3_4_ u3 u4 w' → ∀ K : Act → World → Prop, (∀ (u2 : Value) w2, I2_3_4_ u2 u3 u4 w2 → K (((A2.put o3.dst u3).put o4.dst u4).put o2.dst u2) w2) → o2.wp P ((A2.put o3.dst u3).put o4.dst u4) w' K (NoPanic Q))
    (s2_3_4_6 : ∀ (u2 u3 u4 : Value) w', I2_3_4_ u2 u3 u4 w' → ∀ K : Act → World → Prop, (∀ (u6 : Value) w2, I2_3_4_6_ u2 u3 u4 u6 w2 → K ((((A2.put o2.dst u2).put o3.dst u3).put o4.dst u4).put o6.dst u6) w2) → o6.wp P (((A2.put o2.dst u2).put o3.dst u3).put o4.dst u4) w' K (NoPanic Q))
    (y2_3_4_6_7 : ∀ (u2 u3 u4 u6 : Value) w', I2_3_4_6_ u2 u3 u4 u6 w' → YieldsIf P #[o0, o1, o2, o3, o4, o5, o6, o7, o8, o9, o10, o11, o12, o13] S o7 (v7 u6) ((((A2.put o2.dst u2).put o3.dst u3).put o4.dst u4).put o6.dst u6))
    (y2_3_4_6_8 : ∀ (u2 u3 u4 u6 : Value) w', I2_3_4_6_ u2 u3 u4 u6 w' → YieldsIf P #[o0, o1, o2, o3, o4, o5, o6, o7, o8, o9, o10, o11, o12, o13] S o8 (v8 u6) (((((A2.put o2.dst u2).put o3.dst u3).put o4.dst u4).put o6.dst u6).put o7.dst (v7 u6)))
    (y2_3_4_6_9 : ∀ (u2 u3 u4 u6 : Value) w', I2_3_4_6_ u2 u3 u4 u6 w' → YieldsIf P #[o0, o1, o2, o3, o4, o5, o6, o7, o8, o9, o10, o11, o12, o13] S o9 (v9 u6) ((((((A2.put o2.dst u2).put o3.dst u3).put o4.dst u4).put o6.dst u6).put o7.dst (v7 u6)).put o8.dst (v8 u6)))
    (y2_3_4_6_10 : ∀ (u2 u3 u4 u6 : Value) w', I2_3_4_6_ u2 u3 u4 u6 w' → YieldsIf P #[o0, o1, o2, o3, o4, o5, o6, o7, o8, o9, o10, o11, o12, o13] S o10 (v10 u6) (((((((A2.put o2.dst u2).put o3.dst u3).put o4.dst u4).put o6.dst u6).put o7.dst (v7 u6)).put o8.dst (v8 u6)).put o9.dst (v9 u6)))
    (y2_3_4_6_11 : ∀ (u2 u3 u4 u6 : Value) w', I2_3_4_6_ u2 u3 u4 u6 w' → YieldsIf P #[o0, o1, o2, o3, o4, o5, o6, o7, o8, o9, o10, o11, o12, o13] S o11 (v11 u6) ((((((((A2.put o2.dst u2).put o3.dst u3).put o4.dst u4).put o6.dst u6).put o7.dst (v7 u6)).put o8.dst (v8 u6)).put o9.dst (v9 u6)).put o10.dst (v10 u6)))
    (y2_3_4_6_12 : ∀ (u2 u3 u4 u6 : Value) w', I2_3_4_6_ u2 u3 u4 u6 w' → YieldsIf P #[o0, o1, o2, o3, o4, o5, o6, o7, o8, o9, o10, o11, o12, o13] S o12 (v12 u6) (((((((((A2.put o2.dst u2).put o3.dst u3).put o4.dst u4).put o6.dst u6).put o7.dst (v7 u6)).put o8.dst (v8 u6)).put o9.dst (v9 u6)).put o10.dst (v10 u6)).put o11.dst (v11 u6)))
    (y2_3_4_6_13 : ∀ (u2 u3 u4 u6 : Value) w', I2_3_4_6_ u2 u3 u4 u6 w' → YieldsIf P #[o0, o1, o2, o3, o4, o5, o6, o7, o8, o9, o10, o11, o12, o13] S o13 (v13 u6) ((((((((((A2.put o2.dst u2).put o3.dst u3).put o4.dst u4).put o6.dst u6).put o7.dst (v7 u6)).put o8.dst (v8 u6)).put o9.dst (v9 u6)).put o10.dst (v10 u6)).put o11.dst (v11 u6)).put o12.dst (v12 u6)))
    (h : ∀ (u2 u3 u4 u6 : Value) w', I2_3_4_6_ u2 u3 u4 u6 w' → Q .normal (((((((((((A2.put o2.dst u2).put o3.dst u3).put o4.dst u4).put o6.dst u6).put o7.dst (v7 u6)).put o8.dst (v8 u6)).put o9.dst (v9 u6)).put o10.dst (v10 u6)).put o11.dst (v11 u6)).put o12.dst (v12 u6)).put o13.dst (v13 u6)) w') :
    (Code.region id #[o0, o1, o2, o3, o4, o5, o6, o7, o8, o9, o10, o11, o12, o13] true).wp P Q a w := by
  subst p0 p1 p5
  obtain ⟨z_, z2_, z3_, z2_3_, z3_4_, z2_3_4_, z2_3_4_6_⟩ := hIS
  refine wp_region_noPanic ?_
  refine wp_region_held_drew (S := S) hm (z_ _ i0) (fun hH => ?_)
  show wpAnyH P .any #[o0, o1, o2, o3, o4, o5, o6, o7, o8, o9, o10, o11, o12, o13] (NoPanic Q) S 14 #[false, false, false, false, false, false, false, false, false, false, false, false, false, false] a w.drew
  refine wpAnyH_take (i := 0) (oi := o0) rfl hs f0 r0 (fun _ _ _ h => h) hy0 hH ?_
  refine wpAnyH_take (i := 1) (oi := o1) rfl hs f1 r1 (fun _ _ _ h => h) hy1 hH ?_
  refine wpAnyH_take (i := 5) (oi := o5) rfl hs f5 r5 (fun _ _ _ h => h) hy5 hH ?_
  generalize (((a.put o0.dst v0).put o1.dst v1).put o5.dst v5) = B at *
  have wa2 : ∀ y, Region.wanted o2 y = true := fun y => by unfold Region.wanted; rw [g2]
  have wa3 : ∀ y, Region.wanted o3 y = true := fun y => by unfold Region.wanted; rw [g3]
  have wa4 : ∀ y, Region.wanted o4 y = true := fun y => by unfold Region.wanted; rw [g4]
  have wa6 : ∀ y, Region.wanted o6 y = true := fun y => by unfold Region.wanted; rw [g6]
  have t2_3_4_6_ : ∀ (u2 u3 u4 u6 : Value) w', I2_3_4_6_ u2 u3 u4 u6 w' → wpAnyH P .any #[o0, o1, o2, o3, o4, o5, o6, o7, o8, o9, o10, o11, o12, o13] (NoPanic Q) S 0 #[true, true, true, true, true, true, true, true, true, true, true, true, true, true] (((((((((((B.put o2.dst u2).put o3.dst u3).put o4.dst u4).put o6.dst u6).put o7.dst (v7 u6)).put o8.dst (v8 u6)).put o9.dst (v9 u6)).put o10.dst (v10 u6)).put o11.dst (v11 u6)).put o12.dst (v12 u6)).put o13.dst (v13 u6)) w' := by
    intro u2 u3 u4 u6 w0 i0
    exact ⟨q2_3_4_6_, NoPanic.normal (h u2 u3 u4 u6 w0 i0)⟩
  have t2_3_4_ : ∀ (u2 u3 u4 : Value) w', I2_3_4_ u2 u3 u4 w' → wpAnyH P .any #[o0, o1, o2, o3, o4, o5, o6, o7, o8, o9, o10, o11, o12, o13] (NoPanic Q) S 8 #[true, true, true, true, true, true, false, false, false, false, false, false, false, false] (((B.put o2.dst u2).put o3.dst u3).put o4.dst u4) w' := by
    intro u2 u3 u4 w0 i0
    refine wpAnyH_ready (rs := [6]) q2_3_4_ (by simp) (AllReadyH.cons (o := o6) rfl (fun K hK => ?_) AllReadyH.nil)
    · rw [if_pos (wa6 _)]
      refine s2_3_4_6 u2 u3 u4 w0 i0 K (fun u6 w1 i1 => hK.out _ _ (z2_3_4_6_ u2 u3 u4 u6 w1 i1) (fun _ => ?_))
      clear hK
      refine wpAnyH_take (i := 7) (oi := o7) rfl hs f2_3_4_6_7 r2_3_4_6_7 (fun _ _ _ h => h) (y2_3_4_6_7 u2 u3 u4 u6 w1 i1) (z2_3_4_6_ u2 u3 u4 u6 w1 i1) ?_
      refine wpAnyH_take (i := 8) (oi := o8) rfl hs f2_3_4_6_8 r2_3_4_6_8 (fun _ _ _ h => h) (y2_3_4_6_8 u2 u3 u4 u6 w1 i1) (z2_3_4_6_ u2 u3 u4 u6 w1 i1) ?_
      refine wpAnyH_take (i := 9) (oi := o9) rfl hs f2_3_4_6_9 r2_3_4_6_9 (fun _ _ _ h => h) (y2_3_4_6_9 u2 u3 u4 u6 w1 i1) (z2_3_4_6_ u2 u3 u4 u6 w1 i1) ?_
      refine wpAnyH_take (i := 10) (oi := o10) rfl hs f2_3_4_6_10 r2_3_4_6_10 (fun _ _ _ h => h) (y2_3_4_6_10 u2 u3 u4 u6 w1 i1) (z2_3_4_6_ u2 u3 u4 u6 w1 i1) ?_
      refine wpAnyH_take (i := 11) (oi := o11) rfl hs f2_3_4_6_11 r2_3_4_6_11 (fun _ _ _ h => h) (y2_3_4_6_11 u2 u3 u4 u6 w1 i1) (z2_3_4_6_ u2 u3 u4 u6 w1 i1) ?_
      refine wpAnyH_take (i := 12) (oi := o12) rfl hs f2_3_4_6_12 r2_3_4_6_12 (fun _ _ _ h => h) (y2_3_4_6_12 u2 u3 u4 u6 w1 i1) (z2_3_4_6_ u2 u3 u4 u6 w1 i1) ?_
      refine wpAnyH_take (i := 13) (oi := o13) rfl hs f2_3_4_6_13 r2_3_4_6_13 (fun _ _ _ h => h) (y2_3_4_6_13 u2 u3 u4 u6 w1 i1) (z2_3_4_6_ u2 u3 u4 u6 w1 i1) ?_
      exact t2_3_4_6_ u2 u3 u4 u6 w1 i1
  have t3_4_ : ∀ (u3 u4 : Value) w', I3_4_ u3 u4 w' → wpAnyH P .any #[o0, o1, o2, o3, o4, o5, o6, o7, o8, o9, o10, o11, o12, o13] (NoPanic Q) S 9 #[true, true, false, true, true, true, false, false, false, false, false, false, false, false] ((B.put o3.dst u3).put o4.dst u4) w' := by
    intro u3 u4 w0 i0
    refine wpAnyH_ready (rs := [2]) q3_4_ (by simp) (AllReadyH.cons (o := o2) rfl (fun K hK => ?_) AllReadyH.nil)
    · rw [if_pos (wa2 _)]
      refine s3_4_2 u3 u4 w0 i0 K (fun u2 w1 i1 => hK.out _ _ (z2_3_4_ u2 u3 u4 w1 i1) (fun _ => ?_))
      clear hK
      rw [Act.put_comm _ _ _ ne4_2]
      rw [Act.put_comm _ _ _ ne3_2]
      exact t2_3_4_ u2 u3 u4 w1 i1
  have t2_3_ : ∀ (u2 u3 : Value) w', I2_3_ u2 u3 w' → wpAnyH P .any #[o0, o1, o2, o3, o4, o5, o6, o7, o8, o9, o10, o11, o12, o13] (NoPanic Q) S 9 #[true, true, true, true, false, true, false, false, false, false, false, false, false, false] ((B.put o2.dst u2).put o3.dst u3) w' := by
    intro u2 u3 w0 i0
    refine wpAnyH_ready (rs := [4]) q2_3_ (by simp) (AllReadyH.cons (o := o4) rfl (fun K hK => ?_) AllReadyH.nil)
    · rw [if_pos (wa4 _)]
      refine s2_3_4 u2 u3 w0 i0 K (fun u4 w1 i1 => hK.out _ _ (z2_3_4_ u2 u3 u4 w1 i1) (fun _ => ?_))
      clear hK
      exact t2_3_4_ u2 u3 u4 w1 i1
  have t3_ : ∀ (u3 : Value) w', I3_ u3 w' → wpAnyH P .any #[o0, o1, o2, o3, o4, o5, o6, o7, o8, o9, o10, o11, o12, o13] (NoPanic Q) S 10 #[true, true, false, true, false, true, false, false, false, false, false, false, false, false] (B.put o3.dst u3) w' := by
    intro u3 w0 i0
    refine wpAnyH_ready (rs := [2, 4]) q3_ (by simp) (AllReadyH.cons (o := o2) rfl (fun K hK => ?_) (AllReadyH.cons (o := o4) rfl (fun K hK => ?_) AllReadyH.nil))
    · rw [if_pos (wa2 _)]
      refine s3_2 u3 w0 i0 K (fun u2 w1 i1 => hK.out _ _ (z2_3_ u2 u3 w1 i1) (fun _ => ?_))
      clear hK
      rw [Act.put_comm _ _ _ ne3_2]
      exact t2_3_ u2 u3 w1 i1
    · rw [if_pos (wa4 _)]
      refine s3_4 u3 w0 i0 K (fun u4 w1 i1 => hK.out _ _ (z3_4_ u3 u4 w1 i1) (fun _ => ?_))
      clear hK
      exact t3_4_ u3 u4 w1 i1
  have t2_ : ∀ (u2 : Value) w', I2_ u2 w' → wpAnyH P .any #[o0, o1, o2, o3, o4, o5, o6, o7, o8, o9, o10, o11, o12, o13] (NoPanic Q) S 10 #[true, true, true, false, false, true, false, false, false, false, false, false, false, false] (B.put o2.dst u2) w' := by
    intro u2 w0 i0
    refine wpAnyH_ready (rs := [3]) q2_ (by simp) (AllReadyH.cons (o := o3) rfl (fun K hK => ?_) AllReadyH.nil)
    · rw [if_pos (wa3 _)]
      refine s2_3 u2 w0 i0 K (fun u3 w1 i1 => hK.out _ _ (z2_3_ u2 u3 w1 i1) (fun _ => ?_))
      clear hK
      exact t2_3_ u2 u3 w1 i1
  have t_ : ∀ w', I_  w' → wpAnyH P .any #[o0, o1, o2, o3, o4, o5, o6, o7, o8, o9, o10, o11, o12, o13] (NoPanic Q) S 11 #[true, true, false, false, false, true, false, false, false, false, false, false, false, false] B w' := by
    intro w0 i0
    refine wpAnyH_ready (rs := [2, 3]) q_ (by simp) (AllReadyH.cons (o := o2) rfl (fun K hK => ?_) (AllReadyH.cons (o := o3) rfl (fun K hK => ?_) AllReadyH.nil))
    · rw [if_pos (wa2 _)]
      refine s_2  w0 i0 K (fun u2 w1 i1 => hK.out _ _ (z2_ u2 w1 i1) (fun _ => ?_))
      clear hK
      exact t2_ u2 w1 i1
    · rw [if_pos (wa3 _)]
      refine s_3  w0 i0 K (fun u3 w1 i1 => hK.out _ _ (z3_ u3 w1 i1) (fun _ => ?_))
      clear hK
      exact t3_ u3 w1 i1
  exact t_ w.drew i0

end
end Go.Proofs.YtjafmnemobcipaaGreatDoor
/-
  One operation: a call, by its contract.
-/
namespace Go.Proofs.YtjafmnemobcipaaGreatDoor
open Go Go.RowKit Go.BigFrame
set_option linter.unusedVariables false
set_option linter.unusedSimpArgs false

theorem wp_callN {o : Oper} {a : Act} {w : World} {K : Act → World → Prop} {Q : Exit → Act → World → Prop} {f : FuncId} {xs : Array Operand} {ts : Array TypeId} (ho : o.op = .call { callee := .value (.func f), args := xs, argTypes := ts })
    (hcl : ∀ args W, (callFunc f args).run Tryz.prog W = .ok (.enter f args) W) (us : List Value) (he : xs.toList.map a.eval = us) {R : Ending → World → Prop}
    (hc : Calls Tryz.prog f us.toArray w R) (h : ∀ e w', R e w' → ∃ v, e = .returned v ∧ K (a.put o.dst v) w') : o.wp Tryz.prog a w K Q := by
  have he2 : xs.map a.eval = us.toArray := by rw [← he]; cases xs; simp only [List.map_toArray]
  unfold Oper.wp execOp
  simp only [ho]
  have hf : a.eval (.func f) = .func (.func f) #[] #[] := rfl
  simp only [resolve, invoke, hf, he2, Sem.run_bind, Sem.run_pure, Result.andThen_ok, hcl]
  simp [Deferred.ofValue, hcl, go_sem]
  refine hc.mono ?_
  intro e w2 h2
  obtain ⟨v, rfl, h3⟩ := h e w2 h2
  exact h3
end Go.Proofs.YtjafmnemobcipaaGreatDoor
namespace Go.Proofs.YtjafmnemobcipaaGreatDoor
open Go.RowKit Go.BigFrame
set_option linter.unusedVariables false
set_option linter.unusedSimpArgs false

theorem bw_kept (w : World) (e : TypeId) (s : ByteArray) : Kept [] w (Lib.bytesWorld w e s) := ⟨rfl, rfl, rfl, by rw [Lib.bytesWorld_size]; omega, fun k hk _ => Lib.bytesWorld_at_old w e s k hk⟩
theorem strOf_size (bs : List Nat) : (strOf bs).size = bs.length := by simp [strOf, ByteArray.size]
theorem bw_rd (w : World) (bs : List Nat) (hb : ∀ x ∈ bs, x < 256) (hl : bs.length ≤ 1000000) : Rd (Lib.bytesWorld w 5 (strOf bs)) (.slice (some ⟨w.heap.size, 0, none⟩) (strOf bs).size (grownCap w (strOf bs).size 0 5)) bs := by
  have h1 := grownCap_ge w (strOf bs).size 0 5
  have h2 := grownCap_le_maxLen w (strOf bs).size 0 5 (by rw [strOf_size]; unfold maxLen; omega)
  rw [strOf_size] at h1 h2 ⊢
  unfold maxLen at h2
  refine ⟨_, _, _, rfl, rfl, h1, ⟨by omega, by omega⟩, fun h => by simp at h, hb, fun hp => ⟨w.heap.size, 0, rfl, fun i hi => ?_⟩⟩
  rw [Nat.zero_add, Lib.bytesWorld_cell w 5 (strOf bs) i (by rw [strOf_size]; exact hi)]
  have hx := hb (bs[i]) (List.getElem_mem hi)
  simp [strOf, List.getD_eq_getElem?_getD, hi, u8]
  omega
theorem conv_str (w : World) (bs : List Nat) (n : Nat) (hn : bs.length = n) (hb : ∀ x ∈ bs, x < 256) (hl : n ≤ 1000000) : ∃ W c, (convert 9 22 (.string (strOf bs))).run Tryz.prog w = .ok (.slice (some ⟨w.heap.size, 0, none⟩) n c) W ∧ Rd W (.slice (some ⟨w.heap.size, 0, none⟩) n c) bs ∧ Kept [] w W ∧ W.heap.size = w.heap.size + 1 := by
  have hu5 : Tryz.prog.underlying 5 = some (.int .u8) := by kernel_rfl
  have hu9 : Tryz.prog.underlying 9 = some .string := by kernel_rfl
  subst hn
  exact ⟨_, _, by rw [Lib.run_convert_string_bytes w 9 22 5 (strOf bs) hu9 Tryz.underlying22 hu5, strOf_size], by have := bw_rd w bs hb hl; rwa [strOf_size] at this, bw_kept w 5 _, Lib.bytesWorld_size w 5 _⟩

set_option maxRecDepth 100000 in
set_option maxHeartbeats 2000000 in
theorem hbucket_any (w : World) :
    Calls Tryz.prog 10 #[.string (strOf [97]), .string (strOf [49])] w fun e w' => (∃ v', e = .returned (.agg #[.slice none 0 0, v']) ∧ RdK w' v' [([97], [49])]) ∧ Kept [] w w' := by
  go_enter Tryz.func10, Tryz.ntmps10
  have hk0 := (Kept.refl [] w).alloc (.cells #[.slice none 0 0, .slice none 0 0] 26)
  have hg0 := heap_alloc_new w (.cells #[.slice none 0 0, .slice none 0 0] 26)
  obtain ⟨W0, hW0⟩ : ∃ W0, w.alloc (.cells #[.slice none 0 0, .slice none 0 0] 26) = W0 := ⟨_, rfl⟩
  rw [hW0] at hk0 hg0
  obtain ⟨W1, n1, hr1, r1, k1, z1⟩ := conv_str W0 [97] 1 rfl (by decide) (by decide)
  obtain ⟨W2, n2, hr2, r2, k2, z2⟩ := conv_str W1 [49] 1 rfl (by decide) (by decide)
  have R1 := hide r1
  have R2 := hide r2
  have K1 := hide k1
  have K2 := hide k2
  have K0 := hide hk0
  clear r1 r2 k1 k2 hk0
  have HG2 := hide ((unhide K2).heap ((unhide K1).heap hg0 (by simp)) (by simp))
  clear hg0
  generalize strOf [97] = s1 at *
  generalize strOf [49] = s2 at *
  have hs2 : w.heap.size < W2.heap.size := lt_of_block (unhide HG2)
  have HG3 := hide (((Kept.refl [] W2).alloc (.cells #[.slice (some ⟨W0.heap.size, 0, none⟩) 1 n1, .slice (some ⟨W0.heap.size + 1, 0, none⟩) 1 n2] 51)).heap (unhide HG2) (by simp))
  have HP3 := hide (heap_alloc_new W2 (.cells #[.slice (some ⟨W0.heap.size, 0, none⟩) 1 n1, .slice (some ⟨W0.heap.size + 1, 0, none⟩) 1 n2] 51))
  have HK3 := hide ((Kept.refl [] W2).alloc (.cells #[.slice (some ⟨W0.heap.size, 0, none⟩) 1 n1, .slice (some ⟨W0.heap.size + 1, 0, none⟩) 1 n2] 51))
  go_wp2_with (first
    | (rw [hW0])
    | (show wpList _ #[_, _, _, _, _, _, _, _] _ [_] _ _; go_must (refine wpList_store_row rfl 26 _ _ rfl w.heap.size #[.slice none 0 0, .slice (some ⟨W0.heap.size + 1 + 1, 0, none⟩) 1 1] rfl rfl _ #[.slice none 0 0, .slice none 0 0] (unhide HG3) (by kernel_rfl) rfl (by simp [Value.oneCell']) ?_)))
  have kF := (((unhide K0).trans (unhide K1) (by simp)).trans (unhide K2) (by simp)).trans (unhide HK3) (by simp)
  have kR := (Kept.refl [w.heap.size] (W2.alloc (.cells #[.slice (some ⟨W0.heap.size, 0, none⟩) 1 n1, .slice (some ⟨W0.heap.size + 1, 0, none⟩) 1 n2] 51))).setRow (g := w.heap.size) (Or.inl (by simp)) #[.slice none 0 0, .slice (some ⟨W0.heap.size + 1 + 1, 0, none⟩) 1 1]
  have hz0 : w.heap.size + 1 = W0.heap.size := by rw [← hW0]; simp
  have e2 : W2.heap.size = W0.heap.size + 1 + 1 := by rw [z2, z1]
  have HPF := hide (kR.heap (unhide HP3) (by simp; omega))
  have hR1 := (((unhide R1).old (unhide K2) (by simp)).old (unhide HK3) (by simp)).kept kR (by simp [blk]; omega)
  have hR2 := ((unhide R2).old (unhide HK3) (by simp)).kept kR (by simp [blk]; omega)
  have HZF := setRow_heap _ w.heap.size _ #[.slice none 0 0, .slice (some ⟨W0.heap.size + 1 + 1, 0, none⟩) 1 1] 26 (0, 0) (unhide HG3)
  refine bodyPost_ret (v := .agg #[.slice none 0 0, .slice (some ⟨W0.heap.size + 1 + 1, 0, none⟩) 1 1]) ?_ rfl ⟨⟨_, rfl, ?_⟩, kF.setRow (g := w.heap.size) (Or.inr (Nat.le_refl _)) _⟩
  · exact results_cell_row rfl _ _ w.heap.size _ #[.slice none 0 0, .slice (some ⟨W0.heap.size + 1 + 1, 0, none⟩) 1 1] (0, 0) _ rfl HZF Tryz.underlying26 rfl (by kernel_rfl)
  · rw [z1] at hR2
    refine ⟨_, 1, 1, [.slice (some ⟨W0.heap.size, 0, none⟩) 1 n1], [.slice (some ⟨W0.heap.size + 1, 0, none⟩) 1 n2], rfl, rfl, Nat.le_refl _, by decide, fun i hi => ?_, fun _ => ⟨W0.heap.size + 1 + 1, 0, rfl, fun i hi => ?_⟩⟩
    · obtain rfl : i = 0 := by omega
      exact ⟨hR1, hR2⟩
    · obtain rfl : i = 0 := by omega
      have h9 := unhide HPF
      rw [e2] at h9
      exact ⟨cell_of_row _ _ _ _ _ _ h9, cell_of_row _ _ _ _ _ _ h9⟩

theorem rd_row {w : World} {g : Nat} (bs : List Nat) {cs : Array Value} {fr : Nat × Nat} (h : w.heap[g]? = some (.cells cs 5 fr)) (hc : cs = (bs.map u8).toArray) (hb : ∀ x ∈ bs, x < 256) (n : Nat) (hn : bs.length = n) (hl : n ≤ 140737488355328) : Rd w (.slice (some ⟨g, 0, none⟩) n n) bs := by
  refine ⟨_, n, n, rfl, hn, Nat.le_refl _, ⟨by omega, hl⟩, fun h => by simp at h, hb, fun hp => ⟨g, 0, rfl, fun i hi => ?_⟩⟩
  subst hc
  have hi' : i < bs.length := by omega
  rw [cell_of_row _ _ _ _ _ _ h, Nat.zero_add, List.getElem?_toArray, List.getElem?_map, List.getElem?_eq_getElem hi', List.getD_eq_getElem?_getD, List.getElem?_eq_getElem hi']
  rfl
def ps1 : List (List Nat × List Nat) := [([97], [49])]
theorem ps1_pb : (pairB ps1).length ≤ 1000000000000 := by
  have u1 := uv_len 1 (by omega)
  have e : pairB ps1 = uv 1 ++ [97] ++ (uv 1 ++ [49]) := by simp [pairB, ps1]
  rw [e]
  simp
  omega
theorem run_conv_at {w : World} {g n c : Nat} {C : Array Value} (h : w.heap[g]? = some (.cells C 5 (0, 0))) : (convert 22 22 (.slice (some ⟨g, 0, none⟩) n c)).run Tryz.prog w = .ok (.slice (some ⟨g, 0, none⟩) n c) (w.freeze ⟨g, C.size, none⟩ 1) := by
  have hsh : w.shape? g = some (5, C.size) := by unfold World.shape?; rw [h]
  simp [convert, run_underlying (P := Tryz.prog) Tryz.underlying22, run_underlying (P := Tryz.prog) Tryz.underlying5, markStringish, hsh]
theorem freeze_at {w : World} {g k : Nat} {C : Array Value} (h : w.heap[g]? = some (.cells C 5 (0, 0))) : (w.freeze ⟨g, k, none⟩ 1).heap[g]? = some (.cells C 5 (k, k + 1)) := by
  unfold World.freeze
  rw [if_neg (by decide)]
  show (w.heap.modify g _)[g]? = _
  rw [Array.getElem?_modify, if_pos rfl, h]
  rfl
theorem freeze_kept {L : List Nat} {X w : World} {g k : Nat} (h : Kept L X w) (hg : g ∈ L ∨ X.heap.size ≤ g) : Kept L X (w.freeze ⟨g, k, none⟩ 1) := by
  unfold World.freeze
  rw [if_neg (by decide)]
  refine ⟨h.os, h.tape, h.output, ?_, fun j hj hn => ?_⟩
  · show X.heap.size ≤ (w.heap.modify g _).size
    rw [Array.size_modify]; exact h.size
  · show (w.heap.modify g _)[j]? = _
    rw [Array.getElem?_modify, if_neg (by rintro rfl; rcases hg with h9 | h9; exact hn h9; omega)]
    exact h.block j hj hn
theorem aw_rt : rtE 2 [97] [] ps1 = 0 ∧ rtD 2 [97] [] ps1 = sumD 2 (buckB ps1) ∧ rtV 2 [97] [] ps1 = some [49] := by
  have h0 : hfE 2 [97] [] [] = 0 := by decide
  have hp : ∀ ks, provB 2 ks [] ps1 = true := by intro ks; simp [provB, fitsB, ps1, risB, hanB]
  have h := rtE_mk h0 (hp (keyS 2 [97]))
  refine ⟨h, ?_, ?_⟩
  · unfold rtD; rw [if_pos h]; rfl
  · unfold rtV; rw [if_pos h]; rfl
theorem aw_ck : ckE 2 (sumD 2 (buckB ps1)) [98] [] ps1 = 0 ∧ ckV 2 (sumD 2 (buckB ps1)) [98] [] ps1 = none := by
  have h0 : hfE 2 [98] [] [] = 0 := by decide
  have hp : ∀ ks, provB 2 ks [] ps1 = true := by intro ks; simp [provB, fitsB, ps1, risB, hanB]
  have h := rtE_mk h0 (hp (keyS 2 [98]))
  have hd : rtD 2 [98] [] ps1 = sumD 2 (buckB ps1) := by unfold rtD; rw [if_pos h]; rfl
  have hc : ckE 2 (sumD 2 (buckB ps1)) [98] [] ps1 = 0 := by rw [← hd]; exact agr_ok h
  refine ⟨hc, ?_⟩
  unfold ckV rtV
  rw [if_pos hc, if_pos h]; rfl

def tupAt : Value → Nat → Value
  | .tuple vs, i => vs.toList.getD i undef
  | _, _ => undef

set_option maxRecDepth 100000 in
set_option maxHeartbeats 2000000 in
theorem hawake_any (w : World) (hT : Tabs w) :
    Calls Tryz.prog 4 #[] w fun e w' => e = .returned (.bool true) ∧ Kept [] w w' := by
  have HT := hide hT
  clear hT
  go_enter Tryz.func4, Tryz.ntmps4
  go_wp2_with fail
  refine Calls.mono (hbucket_any _) ?_
  rintro e w1 ⟨⟨v1, rfl, r1⟩, k1⟩
  have HR1 := hide r1
  obtain ⟨pa, pn, pc, _, _, rfl, _⟩ := id r1
  clear r1
  have kN := (k1.alloc (.cells #[.slice none 0 0, .slice none 0 0] 26)).setRow (g := w1.heap.size) (Or.inr k1.size) #[.slice none 0 0, .slice pa pn pc]
  have HN1 := hide (setRow_heap (w1.alloc (.cells #[.slice none 0 0, .slice none 0 0] 26)) w1.heap.size _ #[.slice none 0 0, .slice pa pn pc] 26 (0, 0) (heap_alloc_new _ _))
  have HK1 := hide kN
  have HP1 := hide ((unhide HR1).old (((Kept.refl [] w1).alloc (.cells #[.slice none 0 0, .slice none 0 0] 26)).setRow (g := w1.heap.size) (Or.inr (Nat.le_refl _)) #[.slice none 0 0, .slice pa pn pc]))
  clear kN k1 HR1
  have hc1 := Go.Joins.run_convert_bytes_const_at (P := Tryz.prog) ((w1.alloc (.cells #[.slice none 0 0, .slice none 0 0] 26)).setRow w1.heap.size #[.slice none 0 0, .slice pa pn pc]) 22 5 #[.int .u8 97] 1 1 (w1.heap.size + 1) (by simp) Tryz.underlying22 Tryz.underlying5
  have kc := (Kept.refl [] ((w1.alloc (.cells #[.slice none 0 0, .slice none 0 0] 26)).setRow w1.heap.size #[.slice none 0 0, .slice pa pn pc])).alloc (.cells #[.int .u8 97] 5 (1, 2))
  have HN2 := hide (kc.heap (unhide HN1) (by simp))
  have HP2 := hide ((unhide HP1).old kc)
  have HK2 := hide ((unhide HK1).trans kc (by simp))
  have hz9 : ((w1.alloc (.cells #[.slice none 0 0, .slice none 0 0] 26)).setRow w1.heap.size #[.slice none 0 0, .slice pa pn pc]).heap.size = w1.heap.size + 1 := by simp
  have HB2 := hide (rd_row (n := 1) [97] (heap_alloc_new ((w1.alloc (.cells #[.slice none 0 0, .slice none 0 0] 26)).setRow w1.heap.size #[.slice none 0 0, .slice pa pn pc]) (.cells #[.int .u8 97] 5 (1, 2))) rfl (by decide) rfl (by decide))
  rw [hz9] at HB2
  clear kc hz9 HN1 HP1 HK1
  go_wp2_with (first
    | (show wpList _ _ _ [_] _ (World.alloc _ _); refine wpList_store_row rfl 26 _ _ rfl w1.heap.size #[.slice none 0 0, .slice pa pn pc] rfl rfl _ #[.slice none 0 0, .slice none 0 0] (heap_alloc_new _ _) (by kernel_rfl) rfl (by simp [Value.oneCell']) ?_)
    | (refine wpList_load_row rfl 26 _ rfl w1.heap.size rfl _ #[.slice none 0 0, .slice pa pn pc] (0, 0) _ (unhide HN2) Tryz.underlying26 rfl (by kernel_rfl) ?_))
  obtain ⟨X, hX⟩ : ∃ X, ((w1.alloc (.cells #[.slice none 0 0, .slice none 0 0] 26)).setRow w1.heap.size #[.slice none 0 0, .slice pa pn pc]).alloc (.cells #[.int .u8 97] 5 (1, 2)) = X := ⟨_, rfl⟩
  have hX' : (#[Value.int IntKind.u8 97] : Array Value).size = 1 := rfl
  simp only [hX', Nat.reduceAdd] at hc1 ⊢
  rw [hX] at HN2 HP2 HK2 HB2 ⊢
  clear hX hX' hc1
  refine Calls.mono (hrootOf_any 2 _ [97] _ _ [] ps1 _ (by decide) (unhide HB2) (RdS.nil _) (unhide HP2) ((unhide HT).k (unhide HK2)) ps1_pb (by decide) (by decide) (by simp)) ?_
  rintro e w2 ⟨⟨v2, rfl, r2⟩, k2⟩
  rw [aw_rt.1, aw_rt.2.1]
  rw [aw_rt.2.2] at r2 ⊢
  have HV2 := hide r2
  obtain ⟨va, vn, vc, rfl, _⟩ := id r2
  have HDG := hide (sumD_dg 2 (buckB ps1))
  generalize hD : sumD 2 (buckB ps1) = D at HDG ⊢
  have HD := hide hD
  clear hD r2
  have hdl := (unhide HDG).1
  have HSZ := hide (Tryz.szD hdl)
  have kN := (k2.alloc (.cells (zb 32) 28)).setRow (g := w2.heap.size) (Or.inr k2.size) (brow D)
  have kS := ((Kept.refl [] w2).alloc (.cells (zb 32) 28)).setRow (g := w2.heap.size) (Or.inr (Nat.le_refl _)) (brow D)
  have HD3 := hide (setRow_heap (w2.alloc (.cells (zb 32) 28)) w2.heap.size (zb 32) (brow D) 28 (0, 0) (heap_alloc_new _ _))
  have HN3 := hide (kN.heap (unhide HN2) (by simp))
  have HP3 := hide ((unhide HP2).old kN)
  have HK3 := hide ((unhide HK2).trans kN (by simp))
  have HV3 := hide ((unhide HV2).old kS (by simp))
  clear kN kS k2 HN2 HP2 HK2 HB2 HV2
  have c3 : ((w2.alloc (.cells (zb 32) 28)).setRow w2.heap.size (brow D)).cell? ⟨w1.heap.size, 1, none⟩ = some (.slice pa pn pc) := cell_of_row _ _ 1 _ _ _ (unhide HN3)
  go_wp2_with (first
    | (rw [zb32]; refine wpList_store_row rfl 28 _ _ rfl w2.heap.size (brow D) rfl rfl _ (zb 32) (heap_alloc_new _ _) (unhide HSZ) (by rw [zb_size, brow_size, hdl]) (brow_one _) ?_))
  have c30 : ((w2.alloc (.cells (zb 32) 28)).setRow w2.heap.size (brow D)).cell? ⟨w1.heap.size, 0, none⟩ = some (.slice none 0 0) := cell_of_row _ _ 0 _ _ _ (unhide HN3)
  obtain ⟨X, hX⟩ : ∃ X, (w2.alloc (.cells (zb 32) 28)).setRow w2.heap.size (brow D) = X := ⟨_, rfl⟩
  rw [hX] at HD3 HN3 HP3 HK3 HV3 c3 c30 ⊢
  clear hX
  have hgx : w1.heap.size < X.heap.size := lt_of_block (unhide HN3)
  have hxx : X.heap.size ≤ X.heap.size ∧ w1.heap.size < X.heap.size := ⟨Nat.le_refl _, hgx⟩
  have HTX := hide ((unhide HT).k (unhide HK3))
  have HCB := hide (fun w0 (hw0 : Kept [] X w0) => refBucket_any 2 (.slice pa pn pc) ps1 w0 (by decide) ((unhide HP3).old hw0) ps1_pb)
  rw [show sumD ((2 : Nat) : Int) (buckB ps1) = D from unhide HD] at HCB
  have HCC := hide (fun w0 (hw0 : Kept [] X w0) kv (hk : Rd w0 kv [98]) => hcheck_any 2 D kv [98] (.slice none 0 0) (.slice pa pn pc) [] ps1 w0 (by decide) (unhide HDG) hk (RdS.nil _) ((unhide HP3).old hw0) ((unhide HTX).k hw0) ps1_pb (by decide) (by decide) (by simp))
  have hck := aw_ck
  rw [unhide HD] at hck
  rw [hck.1, hck.2] at HCC
  clear hck
  refine wp_haw14 (by kernel_rfl) (by kernel_rfl) (by kernel_rfl) (by kernel_rfl) (by kernel_rfl) (by kernel_rfl) (by kernel_rfl) (by kernel_rfl) (by kernel_rfl) (by kernel_rfl) (by kernel_rfl) (by kernel_rfl) (by kernel_rfl) (by kernel_rfl) (by kernel_rfl) (by kernel_rfl) (by kernel_rfl) (by kernel_rfl) (by kernel_rfl) (by kernel_rfl) (by kernel_rfl) (by kernel_rfl) (by kernel_rfl) (by kernel_rfl) (by kernel_rfl) (by kernel_rfl) (by kernel_rfl) (by kernel_rfl) (by kernel_rfl) rfl rfl rfl rfl (by simp) (by simp)
    (.pointer (some ⟨w1.heap.size, 1, none⟩)) (.slice pa pn pc) (.agg #[.slice none 0 0, .slice pa pn pc]) _ _ _
    (fun w' => Kept [] X w')
    (fun w' => Kept [] X w')
    (fun u2 w' => u2 = .agg (brow D) ∧ Kept [] X w')
    (fun u3 w' => ∃ g, u3 = .slice (some ⟨g, 0, none⟩) 1 1 ∧ X.heap.size ≤ g ∧ w'.heap[g]? = some (.cells #[.int .u8 98] 5 (0, 0)) ∧ Kept [] X w')
    (fun u2 u3 w' => u2 = .agg (brow D) ∧ ∃ g, u3 = .slice (some ⟨g, 0, none⟩) 1 1 ∧ X.heap.size ≤ g ∧ w'.heap[g]? = some (.cells #[.int .u8 98] 5 (0, 0)) ∧ Kept [] X w')
    (fun u3 u4 w' => Rd w' u4 [98] ∧ Kept [] X w')
    (fun u2 u3 u4 w' => u2 = .agg (brow D) ∧ Rd w' u4 [98] ∧ Kept [] X w')
    (fun u2 u3 u4 u6 w' => ∃ a c, u6 = .tuple #[.slice a 0 c, .bool false, .int .i64 0] ∧ Kept [] X w')
    (fun u => u) (fun u => tupAt u 0) (fun u => tupAt u 1) (fun u => tupAt u 2) (fun u => tupAt u 0) (fun u => tupAt u 1) (fun u => tupAt u 2)
    (by simp only [Act.put, List.setIfInBounds_toArray, List.set_cons_zero, List.set_cons_succ]; rfl) (by exact Or.inl ⟨by rfl, fun W' hW' => by go_simp⟩)
    (by simp only [Act.put, List.setIfInBounds_toArray, List.set_cons_zero, List.set_cons_succ]; rfl) (by exact Or.inl ⟨by rfl, fun W' hW' => by have h9 := hW'.cell c3 (by simp); go_simp⟩)
    (by simp only [Act.put, List.setIfInBounds_toArray, List.set_cons_zero, List.set_cons_succ]; rfl) (by exact Or.inl ⟨by rfl, fun W' hW' => by have h9 := hW'.cell c3 (by simp); have h8 := hW'.cell c30 (by simp); go_simp⟩)
    (Kept.refl [] X).drew
    ⟨fun w' h => h, fun u2 w' h => h.2, fun u3 w' h => by obtain ⟨g, _, _, _, h⟩ := h; exact h, fun u2 u3 w' h => by obtain ⟨_, g, _, _, _, h⟩ := h; exact h, fun u3 u4 w' h => h.2, fun u2 u3 u4 w' h => h.2.2, fun u2 u3 u4 u6 w' h => by obtain ⟨a, c, _, h⟩ := h; exact h⟩
    (by intro w' i K hK; exact wp_callN rfl Tryz.call12 [.int .i64 2, .slice pa pn pc] rfl (unhide HCB w' i) (fun e w2 h => ⟨_, h.1, hK _ _ ⟨rfl, i.trans h.2 (by simp)⟩⟩))
    (by intro w' i K hK; unfold Oper.wp execOp; go_simp; exact hK _ _ ⟨_, rfl, i.size, heap_alloc_new _ _, i.alloc _⟩)
    (by rintro u2 w' ⟨rfl, i⟩ K hK; unfold Oper.wp execOp; go_simp; exact hK _ _ ⟨rfl, _, rfl, i.size, heap_alloc_new _ _, i.alloc _⟩)
    (by rintro u3 w' ⟨g, rfl, hg, hh, i⟩ K hK; exact wp_callN rfl Tryz.call12 [.int .i64 2, .slice pa pn pc] rfl (unhide HCB w' i) (fun e w2 h => ⟨_, h.1, hK _ _ ⟨rfl, _, rfl, hg, h.2.heap hh (by simp), i.trans h.2 (by simp)⟩⟩))
    (by rintro u3 w' ⟨g, rfl, hg, hh, i⟩ K hK; have hcv := run_conv_at (n := 1) (c := 1) hh; unfold Oper.wp execOp; go_simp; exact hK _ _ ⟨rd_row [98] (freeze_at hh) rfl (by decide) 1 rfl (by decide), freeze_kept i (Or.inr hg)⟩)
    (by rintro u2 u3 w' ⟨rfl, g, rfl, hg, hh, i⟩ K hK; have hcv := run_conv_at (n := 1) (c := 1) hh; unfold Oper.wp execOp; go_simp; exact hK _ _ ⟨rfl, rd_row [98] (freeze_at hh) rfl (by decide) 1 rfl (by decide), freeze_kept i (Or.inr hg)⟩)
    (by rintro u3 u4 w' ⟨hr, i⟩ K hK; exact wp_callN rfl Tryz.call12 [.int .i64 2, .slice pa pn pc] rfl (unhide HCB w' i) (fun e w2 h => ⟨_, h.1, hK _ _ ⟨rfl, hr.old h.2 (by simp), i.trans h.2 (by simp)⟩⟩))
    (by rintro u2 u3 u4 w' ⟨rfl, hr, i⟩ K hK; refine wp_callN rfl Tryz.call5 [.int .i64 2, .agg (brow D), u4, .agg #[.slice none 0 0, .slice pa pn pc]] rfl (unhide HCC w' i _ hr) ?_; rintro e w2 ⟨⟨v', rfl, hv⟩, k⟩; obtain ⟨a, n, c, rfl, hn, _⟩ := id hv; simp at hn; subst hn; exact ⟨_, rfl, hK _ _ ⟨a, c, rfl, i.trans k (by simp)⟩⟩)
    (by rintro u2 u3 u4 u6 w' ⟨a, c, rfl, _⟩; exact Or.inl ⟨by rfl, fun W' hW' => by go_simp⟩)
    (by rintro u2 u3 u4 u6 w' ⟨a, c, rfl, _⟩; exact Or.inl ⟨by rfl, fun W' hW' => by simp only [tupAt]; go_simp⟩)
    (by rintro u2 u3 u4 u6 w' ⟨a, c, rfl, _⟩; exact Or.inl ⟨by rfl, fun W' hW' => by simp only [tupAt]; go_simp⟩)
    (by rintro u2 u3 u4 u6 w' ⟨a, c, rfl, _⟩; exact Or.inl ⟨by rfl, fun W' hW' => by simp only [tupAt]; go_simp⟩)
    (by rintro u2 u3 u4 u6 w' ⟨a, c, rfl, _⟩; exact Or.inl ⟨by rfl, fun W' hW' => by simp only [tupAt]; go_simp⟩)
    (by rintro u2 u3 u4 u6 w' ⟨a, c, rfl, _⟩; exact Or.inl ⟨by rfl, fun W' hW' => by simp only [tupAt]; go_simp⟩)
    (by rintro u2 u3 u4 u6 w' ⟨a, c, rfl, _⟩; exact Or.inl ⟨by rfl, fun W' hW' => by simp only [tupAt]; go_simp⟩)
    ?_
  rintro u2 u3 u4 u6 w6 ⟨sa, sc, rfl, k6⟩
  simp only [Act.put, List.setIfInBounds_toArray, List.set_cons_zero, List.set_cons_succ, tupAt, List.getD_cons_zero, List.getD_cons_succ]
  have HD4 := hide (k6.heap (unhide HD3) (by simp))
  have HN4 := hide (k6.heap (unhide HN3) (by simp))
  have HP4 := hide ((unhide HP3).old k6)
  have HK4 := hide ((unhide HK3).trans k6 (by simp))
  have HV4 := hide ((unhide HV3).old k6 (by simp))
  have c4 := k6.cell c3 (by simp)
  clear k6 HD3 HN3 HP3 HK3 HV3 c3 c30 HCC
  have hne : ∀ p : Prop, (∀ w', Kept [] w6 w' → p) = p := fun p => propext ⟨fun h => h w6 (Kept.refl [] w6), fun h _ _ => h⟩
  have HCK := hide (fun w' (hw' : Kept [] w6 w') => (refBucket_any 2 (.slice pa pn pc) ps1 w' (by decide) ((unhide HP4).old hw') ps1_pb).mono (fun e w2 h2 => ⟨h2.1, hw'.trans h2.2 (by simp)⟩) : ∀ w', Kept [] w6 w' → Calls Tryz.prog 12 #[.int .i64 2, .slice pa pn pc] w' fun e w2 => e = .returned (.agg (brow (sumD ((2 : Nat) : Int) (buckB ps1)))) ∧ Kept [] w6 w2)
  rw [show sumD ((2 : Nat) : Int) (buckB ps1) = D from unhide HD] at HCK
  have heq := fun W => dig_eq W D D hdl hdl
  rw [decide_eq_true rfl] at heq
  have HCV := hide (fun w' (hw' : Kept [] w6 w') => conv_any (.slice va vn vc) [49] w' ((unhide HV4).old hw' (by simp)) (by kernel_rfl) (by kernel_rfl))
  have hst : strOf [49] = ⟨#[49]⟩ := rfl
  rw [hst] at HCV
  clear hst HCB
  go_wp2_with fail
  refine wp_region_keep (by kernel_rfl) (by kernel_rfl) ?_
  iterate 7 (go_big_quiet_step (fail))
  refine wpQuiet_val rfl (.string ⟨#[49]⟩) (fun w' hw' => by have h9 := unhide HCV w' hw'; unfold execOp; go_simp) ?_
  simp only [Act.put, List.setIfInBounds_toArray, List.set_cons_succ, List.set_cons_zero]
  iterate 3 (go_big_quiet_step (fail))
  refine wpQuiet_row rfl 28 (.tmp 2) rfl w2.heap.size rfl _ (brow D) (0, 0) _ (fun w' hw' => hw'.heap (unhide HD4) (by simp)) Tryz.underlying28 rfl (unhide HSZ) ?_
  simp only [Act.put, List.setIfInBounds_toArray, List.set_cons_succ, List.set_cons_zero]
  go_big_quiet_step (fail)
  refine wpQuiet_val rfl (.slice pa pn pc) (fun w' hw' => by have h9 := hw'.cell c4 (by simp); go_simp) ?_
  simp only [Act.put, List.setIfInBounds_toArray, List.set_cons_succ, List.set_cons_zero]
  go_big_quiet_want
  go_big_quiet_op
  apply Exists.intro
  refine ⟨fun w' hw' => ?_, ?_⟩
  · exact unhide HCK w' hw'
  go_big_quiet_on
  refine wpQuiet_val rfl (.bool true) (fun w' hw' => run_eql 28 (.tmp 41) (.tmp 44) _ rfl (brow D) (brow D) rfl rfl w' true (by kernel_rfl) (heq w')) ?_
  simp only [Act.put, List.setIfInBounds_toArray, List.set_cons_succ, List.set_cons_zero]
  repeat (go_big_quiet_step (fail))
  refine wpQuiet_nil ?_
  intro w7 hw7
  have HK7 := hide ((unhide HK4).trans hw7 (by simp))
  clear hw7
  go_wp2
  go_ret
  exact ⟨rfl, unhide HK7⟩
end Go.Proofs.YtjafmnemobcipaaGreatDoor
namespace Go.Proofs.YtjafmnemobcipaaGreatDoor
open Go.ChangeShapes Go.WideShapes Go.ChangeAt Go.RowKit Go.Deep
set_option linter.unusedVariables false
set_option linter.unusedSimpArgs false

theorem own : ownKnob Tryz.prog.godebug = none := by kernel_rfl
theorem laidOut : laidOutB Tryz.prog = true := by kernel_rfl
theorem byte_of_wf {x : Int} (h : (Lit.int .u8 x).wf = true) : 0 ≤ x ∧ x < 256 := by
  simp [Lit.wf, IntKind.min, IntKind.max, IntKind.signed, IntKind.bits] at h
  exact ⟨by omega, by omega⟩
theorem int_of_wf {x : Int} (h : (Lit.int .i64 x).wf = true) : -9223372036854775808 ≤ x ∧ x ≤ 9223372036854775807 := by
  simp [Lit.wf, IntKind.min, IntKind.max, IntKind.signed, IntKind.bits] at h
  exact ⟨by omega, by omega⟩

theorem bulk_one {H : Type} (d : DataW H) : 1 ≤ Rows.uptoBulk d := by
  cases d with
  | lit l => cases l <;> simp [Rows.uptoBulk]
  | nil => simp [Rows.uptoBulk]
  | ptr d => simp [Rows.uptoBulk]
  | slice elems spare => simp [Rows.uptoBulk]
  | agg parts => simp [Rows.uptoBulk]
  | iface t d => simp [Rows.uptoBulk]
  | map entries => simp [Rows.uptoBulk]
  | held h => simp [Rows.uptoBulk]
theorem bulk_len {H : Type} (l : List (DataW H)) : l.length ≤ Rows.uptoBulkAll l := by
  induction l with
  | nil => simp [Rows.uptoBulkAll]
  | cons x r ih => have := bulk_one x; simp only [Rows.uptoBulkAll, List.length_cons]; omega
theorem Tryz.bytes5 : Tryz.prog.bytesOf 5 = 1 := by kernel_rfl

section
variable {H : Type} {enc : TypeId × Value → H} {W : World}

/-- Bytes that came in, as the walks want them, of whatever length. -/
theorem open_bytes {fuel : Nat} {cs : List Value} {x : DataW H × List MemPlace} (h : DataW.trod enc Tryz.prog W 0 (fun _ => true) true fuel 22 cs = some x) :
    ∃ v bs, cs = [v] ∧ (bs.length ≤ 140737488355328 → Rd W v bs) ∧ ((bs = [] ∧ x.1 = .nil) ∨ ∃ elems spare, x.1 = .slice elems spare ∧ elems.length = bs.length) := by
  rcases open_ints Tryz.underlying22 Tryz.underlying5 (by kernel_rfl) h with ⟨rfl, rfl⟩ | ⟨a, len, cap, zs, rfl, _, hl, hm, hz, rfl, hcell, hwz⟩
  · exact ⟨_, [], rfl, fun _ => Rd.nil W, .inl ⟨rfl, rfl⟩⟩
  · have h2 : (lits (H := H) .u8 (zs.take len)).length = len := by simp only [lits, List.length_map, List.length_take]; simp at hz; omega
    have hbl : ((zs.take len).map Int.toNat).length = len := by simp at hz; simp; omega
    refine ⟨_, (zs.take len).map Int.toNat, rfl, fun hB => ⟨_, _, _, rfl, hbl, hl, ⟨by unfold maxLen at hm; omega, by omega⟩, by simp, ?_, ?_⟩, .inr ⟨_, _, rfl, by rw [h2, hbl]⟩⟩
    · intro y hy
      obtain ⟨z, hz1, rfl⟩ := List.mem_map.1 hy
      have := byte_of_wf (hwz z (List.mem_of_mem_take hz1)); omega
    · intro hp
      simp at hz
      have hc0 := hcell 0 (by omega)
      obtain ⟨b, off, spot⟩ := a
      have hspot : spot = none := by simpa [Addr.add] using World.cell?_spot hc0
      subst hspot
      refine ⟨b, off, rfl, fun i hi => ?_⟩
      have hc := hcell i (by omega)
      have hzi : i < zs.length := by omega
      rw [Addr.add_mid] at hc
      rw [hc]
      have hw := byte_of_wf (hwz (zs[i]) (List.getElem_mem hzi))
      simp only [List.getD_eq_getElem?_getD, List.getElem?_eq_getElem hzi, Option.getD_some, List.getElem?_map, List.getElem?_take, hi, if_true, Option.map_some]
      simp [u8]; omega
/-- Their length, by the reach. -/
theorem reach_bytes {ts : List TypeId} {ds : List (DataW H)} (h : (DataW.weightsEach Tryz.prog ts ds).all (· ≤ reachBytes) = true) {j : Nat} (ht : ts[j]? = some 22) {d : DataW H} (hd : ds[j]? = some d) {bs : List Nat}
    (hx : (bs = [] ∧ d = .nil) ∨ ∃ elems spare, d = .slice elems spare ∧ elems.length = bs.length) : bs.length ≤ 140737488351232 := by
  rcases hx with ⟨rfl, _⟩ | ⟨elems, spare, rfl, he⟩
  · simp
  · have := sized_slice h ht hd Tryz.underlying22
    rw [Tryz.bytes5, Nat.mul_one] at this
    unfold reachBytes at this
    omega
/-- Their length, by the bulk. -/
theorem bulk_bytes {d : DataW H} {bs : List Nat} (hx : (bs = [] ∧ d = .nil) ∨ ∃ elems spare, d = .slice elems spare ∧ elems.length = bs.length) : bs.length + 1 ≤ Rows.uptoBulk d := by
  rcases hx with ⟨rfl, rfl⟩ | ⟨elems, spare, rfl, he⟩
  · simp [Rows.uptoBulk]
  · have := bulk_len elems
    simp only [Rows.uptoBulk]; omega
end
end Go.Proofs.YtjafmnemobcipaaGreatDoor
namespace Go.Proofs.YtjafmnemobcipaaGreatDoor
open Go Go.RowKit
set_option linter.unusedVariables false
set_option linter.unusedSimpArgs false
section
variable {H : Type} {enc : TypeId × Value → H} {W : World}

def natOf : Value → Nat
  | .int _ n => n.toNat
  | _ => 0
/-- A digest that came in. -/
theorem open_dig {fuel : Nat} {cs : List Value} {x : DataW H × List MemPlace} (h : DataW.trod enc Tryz.prog W 0 (fun _ => true) true fuel 28 cs = some x) :
    ∃ l : List Nat, cs = l.map u8 ∧ l.length = 32 ∧ ∀ y ∈ l, y < 256 := by
  obtain ⟨xs, m, _, rfl, hl, hn, hc⟩ := DataW.trod_array Tryz.underlying28 h
  rw [show Tryz.prog.cellsOf 28 = 32 from by kernel_rfl] at hl
  rw [show Tryz.prog.cellsOf 5 = 1 from by kernel_rfl] at hc
  have key : ∀ i (hi : i < cs.length), cs[i] = u8 (natOf cs[i]) ∧ natOf cs[i] < 256 := by
    intro i hi
    have h1 := hc i (by omega)
    rw [Nat.mul_one, List.getElem?_eq_getElem (by omega)] at h1
    obtain ⟨n, e, _, hw⟩ := DataW.trod_int Tryz.underlying5 h1
    rw [List.drop_eq_getElem_cons hi, List.take_succ_cons, List.take_zero] at e
    simp only [List.cons.injEq, and_true] at e
    have := byte_of_wf hw
    rw [e]
    refine ⟨?_, ?_⟩
    · simp [u8, natOf]; omega
    · simp [natOf]; omega
  refine ⟨cs.map natOf, ?_, by simp [hl], ?_⟩
  · rw [List.map_map]
    refine List.ext_getElem (by simp) fun i h1 h2 => ?_
    rw [List.getElem_map]
    exact (key i h1).1
  · intro y hy
    obtain ⟨v, hv, rfl⟩ := List.mem_map.1 hy
    obtain ⟨i, hi, rfl⟩ := List.getElem_of_mem hv
    exact (key i hi).2
set_option maxRecDepth 100000 in
theorem open_digv {b0 : Nat} {v : Value} {d : DataW H} {ps : List MemPlace} (hv : Value.okWide Tryz.prog W .any b0 28 v) (h : DataW.Trod enc Tryz.prog W 0 (fun _ => true) true 28 v d ps) :
    ∃ l : List Nat, v = .agg (brow l) ∧ l.length = 32 ∧ ∀ y ∈ l, y < 256 := by
  unfold Value.okWide at hv
  rw [Tryz.underlying28] at hv
  obtain ⟨cs, rfl, _, _⟩ := hv
  obtain ⟨fuel, hf⟩ := h
  obtain ⟨l, e, h1, h2⟩ := open_dig hf
  refine ⟨l, ?_, h1, h2⟩
  simp only [Value.cells] at e
  unfold brow
  rw [← e]
end
end Go.Proofs.YtjafmnemobcipaaGreatDoor
namespace Go.Proofs.YtjafmnemobcipaaGreatDoor
open Go.ChangeShapes Go.WideShapes Go.ChangeAt Go.RowKit Go.Deep
set_option linter.unusedVariables false
set_option linter.unusedSimpArgs false

/-- A question: its width, key, steps, pairs, root. -/
structure AskH where
  z : Int
  k : List Nat
  ss : List (Nat × List (List Nat))
  ps : List (List Nat × List Nat)
  r : List Nat
def askH (q : AskH) (kv sv pv : Value) : List Value := [.int .i64 q.z, kv, sv, pv] ++ q.r.map u8
def zaskh : Array Value := (askH ⟨0, [], [], [], List.replicate 32 0⟩ (.slice none 0 0) (.slice none 0 0) (.slice none 0 0)).toArray
structure OkP (w : World) (ss : List (Nat × List (List Nat))) (ps : List (List Nat × List Nat)) (sv pv : Value) : Prop where
  s : RdS w sv ss
  p : RdK w pv ps
  sl : ss.length ≤ 1048576
  kl : ∀ x ∈ ss, x.2.length ≤ 1048576
  pw : kwt ps ≤ 1048576
theorem OkP.old {w w' : World} {ss : List (Nat × List (List Nat))} {ps : List (List Nat × List Nat)} {sv pv : Value} (h : OkP w ss ps sv pv) (k : Kept [] w w') : OkP w' ss ps sv pv := ⟨h.s.old k, h.p.old k, h.sl, h.kl, h.pw⟩
structure OkH (w : World) (q : AskH) (kv sv pv : Value) : Prop where
  z : -9223372036854775808 ≤ q.z ∧ q.z ≤ 9223372036854775807
  k : Rd w kv q.k
  kl : q.k.length ≤ 1048576
  P : OkP w q.ss q.ps sv pv
  r : Dg q.r
theorem OkH.old {w w' : World} {q : AskH} {kv sv pv : Value} (h : OkH w q kv sv pv) (k : Kept [] w w') : OkH w' q kv sv pv := ⟨h.z, h.k.old k (by simp), h.kl, h.P.old k, h.r⟩
theorem kwt_len (ps : List (List Nat × List Nat)) : 2 * ps.length ≤ kwt ps := by
  induction ps with
  | nil => simp [kwt]
  | cons x r ih =>
    have ek : kwt (x :: r) = x.1.length + x.2.length + 2 + kwt r := by simp [kwt]
    rw [ek, List.length_cons]; omega
section
variable {H : Type} {enc : TypeId × Value → H} {W : World}

theorem o_bulk_part {d : DataW H} {l : List (DataW H)} (h : d ∈ l) : Rows.uptoBulk d ≤ Rows.uptoBulkAll l := by
  induction l with
  | nil => cases h
  | cons x r ih =>
    simp only [Rows.uptoBulkAll]
    cases List.mem_cons.1 h with
    | inl e => subst e; omega
    | inr e => have := ih e; omega
theorem o_split (cs : List Value) (a n : Nat) : cs.drop a = (cs.drop a).take n ++ cs.drop (a + n) := by
  rw [← List.drop_drop, List.take_append_drop]

/-- Digests that came in. -/
theorem open_digs2 {fuel : Nat} {cs : List Value} {x : DataW H × List MemPlace} (h : DataW.trod enc Tryz.prog W 0 (fun _ => true) true fuel 47 cs = some x) (hB : Rows.uptoBulk x.1 ≤ 1048576) :
    ∃ v ds, cs = [v] ∧ RdD W v ds ∧ ds.length ≤ 1048576 := by
  rcases open_slice Tryz.underlying47 h with ⟨rfl, rfl⟩ | ⟨a, len, cap, m, n, D, Pl, rfl, _, hl, hm, hmm, rfl, hx⟩
  · exact ⟨_, [], rfl, ⟨none, 0, 0, rfl, rfl, Nat.le_refl _, by omega, fun d hd => by simp at hd, fun h => by omega⟩, by simp⟩
  · have hC : Tryz.prog.cellsOf 28 = 32 := by kernel_rfl
    rw [hC] at hx
    simp only [if_true] at hmm
    simp only [Rows.uptoBulk] at hB
    have hcap : cap ≤ 1048576 := by
      have h1 := bulk_len ((List.range len).map D)
      have h2 := bulk_len ((List.range (m - len)).map fun j => D (len + j))
      simp at h1 h2
      omega
    obtain ⟨f, hf⟩ := choose_lt (α := List Nat) (n := len) (p := fun i o => (∀ j v, (o.map u8)[j]? = some v → W.cell? ((a.add (i * 32)).add j) = some v) ∧ o.length = 32 ∧ ∀ y ∈ o, y < 256) (by
      intro i hi
      obtain ⟨cs', h1, h2⟩ := hx i (by omega)
      obtain ⟨l, rfl, hl1, hl2⟩ := open_dig h2
      obtain ⟨_, hlen, hc⟩ := World.cells?_some h1
      refine ⟨l, fun j v hv => ?_, hl1, hl2⟩
      have hj := (List.getElem?_eq_some_iff.1 hv).1
      have := hc j (by rw [List.length_map] at hj; omega)
      rw [this, ← hv, List.getElem?_eq_getElem hj])
    refine ⟨_, (List.range len).map f, rfl, ⟨some a, len, cap, rfl, by simp, hl, by omega, ?_, ?_⟩, by simp; omega⟩
    · intro d hd
      obtain ⟨i, hi, rfl⟩ := List.mem_map.1 hd
      exact (hf i (List.mem_range.1 hi)).2
    · intro hp
      obtain ⟨b, off, spot⟩ := a
      have h0 := hf 0 hp
      have hc0 := h0.1 0 (u8 ((f 0).getD 0 0)) (by rw [List.getElem?_map, List.getD_eq_getElem?_getD, List.getElem?_eq_getElem (by omega)]; rfl)
      have hspot : spot = none := by simpa [Addr.add] using World.cell?_spot hc0
      subst hspot
      refine ⟨b, off, rfl, fun i hi j v hv => ?_⟩
      have e9 : ((List.range len).map f).getD i [] = f i := by simp [List.getD_eq_getElem?_getD, hi]
      rw [e9] at hv
      have := (hf i hi).1 j v hv
      rw [Addr.add_mid, Addr.add_mid] at this
      exact this

theorem k_flat_bulk (f : Nat → List Nat × List Nat) (D0 D1 : Nat → DataW H) (l : List Nat) (h : ∀ i ∈ l, (f i).1.length + 1 ≤ Rows.uptoBulk (D0 i) ∧ (f i).2.length + 1 ≤ Rows.uptoBulk (D1 i)) : kwt (l.map f) ≤ Rows.uptoBulkAll (l.map fun i => .agg [D0 i, D1 i]) := by
  induction l with
  | nil => simp [kwt]
  | cons a l ih =>
    have h1 := h a (by simp)
    have h2 := ih (fun i hi => h i (by simp [hi]))
    simp only [kwt, List.map_cons, List.sum_cons, Rows.uptoBulkAll, Rows.uptoBulk] at h2 ⊢
    omega
/-- Pairs that came in. -/
theorem open_pairs {fuel : Nat} {cs : List Value} {x : DataW H × List MemPlace} (h : DataW.trod enc Tryz.prog W 0 (fun _ => true) true fuel 24 cs = some x) (hB : Rows.uptoBulk x.1 ≤ 1048576) :
    ∃ v ps, cs = [v] ∧ RdK W v ps ∧ kwt ps ≤ 1048576 := by
  rcases open_slice_pairs Tryz.underlying24 Tryz.underlying51 (by kernel_rfl) rfl rfl (by kernel_rfl) (by kernel_rfl) h with ⟨rfl, rfl⟩ | ⟨a, len, cap, m, n, V0, V1, D0, D1, P0, P1, rfl, _, hl, hm, hmm, rfl, hx⟩
  · exact ⟨_, [], rfl, ⟨none, 0, 0, [], [], rfl, rfl, Nat.le_refl _, by omega, fun i h => by omega, fun h => by omega⟩, by simp [kwt]⟩
  · simp only [if_true] at hmm
    simp only [Rows.uptoBulk] at hB
    obtain ⟨f, hf⟩ := choose_lt (α := List Nat × List Nat) (n := len) (p := fun i o => (Rd W (V0 i) o.1 ∧ Rd W (V1 i) o.2) ∧ o.1.length + 1 ≤ Rows.uptoBulk (D0 i) ∧ o.2.length + 1 ≤ Rows.uptoBulk (D1 i)) (by
      intro i hi
      obtain ⟨_, _, h0, h1⟩ := hx i (by omega)
      have hDi : Rows.uptoBulk (.agg [D0 i, D1 i]) ≤ Rows.uptoBulkAll ((List.range len).map fun i => .agg [D0 i, D1 i]) := o_bulk_part (List.mem_map.2 ⟨i, List.mem_range.2 hi, rfl⟩)
      simp only [Rows.uptoBulk, Rows.uptoBulkAll] at hDi
      obtain ⟨v, bs, e0, hr0, hb0⟩ := open_bytes h0
      obtain ⟨v', bs', e1, hr1, hb1⟩ := open_bytes h1
      simp only [List.cons.injEq, and_true] at e0 e1
      subst e0
      subst e1
      have g0 := bulk_bytes hb0
      have g1 := bulk_bytes hb1
      exact ⟨(bs, bs'), ⟨hr0 (by simp only at g0; omega), hr1 (by simp only at g1; omega)⟩, g0, g1⟩)
    refine ⟨_, (List.range len).map f, rfl, ⟨some a, len, cap, (List.range len).map V0, (List.range len).map V1, rfl, by simp, hl, by unfold maxLen at hm; omega, ?_, ?_⟩, ?_⟩
    · intro i hi
      have hc := (hf i hi).1
      simpa [List.getD_eq_getElem?_getD, hi] using hc
    · intro hp
      obtain ⟨b, off, spot⟩ := a
      have hc0 := (hx 0 (by omega)).1
      have hspot : spot = none := by simpa [Addr.add] using World.cell?_spot hc0
      subst hspot
      refine ⟨b, off, rfl, fun i hi => ?_⟩
      have hc := hx i (by omega)
      rw [Addr.add_mid, Addr.add_mid] at hc
      have := And.intro hc.1 hc.2.1
      simpa [List.getD_eq_getElem?_getD, hi, Nat.add_assoc] using this
    · have := k_flat_bulk f D0 D1 (List.range len) (fun i hi => (hf i (List.mem_range.1 hi)).2)
      omega
theorem pairB_kwt (ps : List (List Nat × List Nat)) (h : kwt ps ≤ 1048576) : (pairB ps).length ≤ 10 * kwt ps := by
  induction ps with
  | nil => simp [pairB]
  | cons x r ih =>
    have e : pairB (x :: r) = uv x.1.length ++ x.1 ++ (uv x.2.length ++ x.2) ++ pairB r := by simp [pairB]
    have ek : kwt (x :: r) = x.1.length + x.2.length + 2 + kwt r := by simp [kwt]
    have h1 := ih (by omega)
    have u1 := uv_len x.1.length (by omega)
    have u2 := uv_len x.2.length (by omega)
    rw [e, ek]
    simp only [List.length_append]
    omega


theorem OkP.pl {w : World} {ss : List (Nat × List (List Nat))} {ps : List (List Nat × List Nat)} {sv pv : Value} (h : OkP w ss ps sv pv) : ps.length ≤ 1048576 := by have := kwt_len ps; have := h.pw; omega
theorem OkP.pb {w : World} {ss : List (Nat × List (List Nat))} {ps : List (List Nat × List Nat)} {sv pv : Value} (h : OkP w ss ps sv pv) : (pairB ps).length ≤ 1000000000000 := by have := pairB_kwt ps h.pw; have := h.pw; omega

/-- Steps that came in. -/
theorem open_steps {fuel : Nat} {cs : List Value} {x : DataW H × List MemPlace} (h : DataW.trod enc Tryz.prog W 0 (fun _ => true) true fuel 23 cs = some x) (hB : Rows.uptoBulk x.1 ≤ 1048576) :
    ∃ v ss, cs = [v] ∧ RdS W v ss ∧ ss.length ≤ 1048576 ∧ ∀ s ∈ ss, s.2.length ≤ 1048576 := by
  rcases open_slice_pairs Tryz.underlying23 Tryz.underlying49 (by kernel_rfl) rfl rfl (by kernel_rfl) (by kernel_rfl) h with ⟨rfl, rfl⟩ | ⟨a, len, cap, m, n, V0, V1, D0, D1, P0, P1, rfl, _, hl, hm, hmm, rfl, hx⟩
  · exact ⟨_, [], rfl, ⟨none, 0, 0, [], rfl, rfl, Nat.le_refl _, by omega, fun i h => by omega, fun h => by omega⟩, by simp, by simp⟩
  · simp only [if_true] at hmm
    simp only [Rows.uptoBulk] at hB
    have hlen : len ≤ 1048576 := by
      have h1 := bulk_len ((List.range len).map fun i => DataW.agg [D0 i, D1 i])
      simp at h1
      omega
    obtain ⟨f, hf⟩ := choose_lt (α := Nat × List (List Nat)) (n := len) (p := fun i o => V0 i = .int .u16 (o.1 : Int) ∧ o.1 < 65536 ∧ RdD W (V1 i) o.2 ∧ o.2.length ≤ 1048576) (by
      intro i hi
      obtain ⟨_, _, h0, h1⟩ := hx i (by omega)
      have hDi : Rows.uptoBulk (.agg [D0 i, D1 i]) ≤ Rows.uptoBulkAll ((List.range len).map fun i => .agg [D0 i, D1 i]) := o_bulk_part (List.mem_map.2 ⟨i, List.mem_range.2 hi, rfl⟩)
      simp only [Rows.uptoBulk, Rows.uptoBulkAll] at hDi
      obtain ⟨b, e0, _, w0⟩ := DataW.trod_int Tryz.underlying46 h0
      obtain ⟨v', ds, e1, hr1, hb1⟩ := open_digs2 h1 (by show Rows.uptoBulk (D1 i) ≤ _; omega)
      simp only [List.cons.injEq, and_true] at e0 e1
      have hb : 0 ≤ b ∧ b < 65536 := by
        simp [Lit.wf, IntKind.min, IntKind.max, IntKind.signed, IntKind.bits] at w0
        omega
      subst e1
      exact ⟨(b.toNat, ds), by rw [e0, Int.toNat_of_nonneg hb.1], by show b.toNat < 65536; omega, hr1, hb1⟩)
    refine ⟨_, (List.range len).map f, rfl, ⟨some a, len, cap, (List.range len).map V1, rfl, by simp, hl, by unfold maxLen at hm; omega, ?_, ?_⟩, by simpa using hlen, ?_⟩
    · intro i hi
      have hc := hf i hi
      have := And.intro hc.2.1 hc.2.2.1
      simpa [List.getD_eq_getElem?_getD, hi] using this
    · intro hp
      obtain ⟨b, off, spot⟩ := a
      have hc0 := (hx 0 (by omega)).1
      have hspot : spot = none := by simpa [Addr.add] using World.cell?_spot hc0
      subst hspot
      refine ⟨b, off, rfl, fun i hi => ?_⟩
      have hc := hx i (by omega)
      rw [Addr.add_mid, Addr.add_mid, (hf i hi).1] at hc
      have := And.intro hc.1 hc.2.1
      simpa [List.getD_eq_getElem?_getD, hi, Nat.add_assoc] using this
    · intro s hs
      obtain ⟨i, hi, rfl⟩ := List.mem_map.1 hs
      exact (hf i (List.mem_range.1 hi)).2.2.2

/-- A path that came in. -/
theorem open_path {fuel : Nat} {cs : List Value} {x : DataW H × List MemPlace} (h : DataW.trod enc Tryz.prog W 0 (fun _ => true) true fuel 26 cs = some x) (hB : Rows.uptoBulk x.1 ≤ 1048576) :
    ∃ ss ps sv pv, cs = [sv, pv] ∧ OkP W ss ps sv pv := by
  obtain ⟨xs, n, _, rfl, hl, hlen, hf⟩ := DataW.trod_struct Tryz.underlying26 h
  rw [show Tryz.prog.cellsOf 26 = 2 from by kernel_rfl] at hl
  match xs, hlen with
  | [y0, y1], _ =>
    have c0 : Tryz.prog.cellsOf 23 = 1 := by kernel_rfl
    have c1 : Tryz.prog.cellsOf 24 = 1 := by kernel_rfl
    have f0 : DataW.trod enc Tryz.prog W 0 (fun _ => true) true n 23 ((cs.drop 0).take 1) = some y0 := by have this : DataW.trod enc Tryz.prog W 0 (fun _ => true) true n 23 ((cs.drop 0).take (Tryz.prog.cellsOf 23)) = some y0 := hf 0 _ rfl; rw [c0] at this; exact this
    have f1 : DataW.trod enc Tryz.prog W 0 (fun _ => true) true n 24 ((cs.drop 1).take 1) = some y1 := by have this : DataW.trod enc Tryz.prog W 0 (fun _ => true) true n 24 ((cs.drop 1).take (Tryz.prog.cellsOf 24)) = some y1 := hf 1 _ rfl; rw [c1] at this; exact this
    simp only [List.map_cons, List.map_nil, Rows.uptoBulk, Rows.uptoBulkAll] at hB
    obtain ⟨sv, ss, e0, hs, hsl, hkl⟩ := open_steps f0 (by omega)
    obtain ⟨pv, ps, e1, hp, hpw⟩ := open_pairs f1 (by omega)
    refine ⟨ss, ps, sv, pv, ?_, ⟨hs, hp, hsl, hkl, hpw⟩⟩
    have hd : cs.drop 2 = [] := List.drop_eq_nil_of_le (by omega)
    have this := o_split cs 0 1
    rw [e0, o_split cs 1 1, e1, hd, List.drop_zero] at this
    rw [this]; rfl

/-- A question that came in. -/
theorem open_askh {fuel : Nat} {cs : List Value} {x : DataW H × List MemPlace} (h : DataW.trod enc Tryz.prog W 0 (fun _ => true) true fuel 30 cs = some x) (hB : Rows.uptoBulk x.1 ≤ 1048576) :
    ∃ (q : AskH) (kv sv pv : Value), cs = askH q kv sv pv ∧ OkH W q kv sv pv := by
  obtain ⟨xs, n, _, rfl, hl, hlen, hf⟩ := DataW.trod_struct Tryz.underlying30 h
  rw [show Tryz.prog.cellsOf 30 = 36 from by kernel_rfl] at hl
  match xs, hlen with
  | [y0, y1, y2, y3], _ =>
    have c3 : Tryz.prog.cellsOf 3 = 1 := by kernel_rfl
    have cb : Tryz.prog.cellsOf 22 = 1 := by kernel_rfl
    have ck : Tryz.prog.cellsOf 26 = 2 := by kernel_rfl
    have cd : Tryz.prog.cellsOf 28 = 32 := by kernel_rfl
    have f0 : DataW.trod enc Tryz.prog W 0 (fun _ => true) true n 3 ((cs.drop 0).take 1) = some y0 := by have this : DataW.trod enc Tryz.prog W 0 (fun _ => true) true n 3 ((cs.drop 0).take (Tryz.prog.cellsOf 3)) = some y0 := hf 0 _ rfl; rw [c3] at this; exact this
    have f1 : DataW.trod enc Tryz.prog W 0 (fun _ => true) true n 22 ((cs.drop 1).take 1) = some y1 := by have this : DataW.trod enc Tryz.prog W 0 (fun _ => true) true n 22 ((cs.drop 1).take (Tryz.prog.cellsOf 22)) = some y1 := hf 1 _ rfl; rw [cb] at this; exact this
    have f2 : DataW.trod enc Tryz.prog W 0 (fun _ => true) true n 26 ((cs.drop 2).take 2) = some y2 := by have this : DataW.trod enc Tryz.prog W 0 (fun _ => true) true n 26 ((cs.drop 2).take (Tryz.prog.cellsOf 26)) = some y2 := hf 2 _ rfl; rw [ck] at this; exact this
    have f3 : DataW.trod enc Tryz.prog W 0 (fun _ => true) true n 28 ((cs.drop 4).take 32) = some y3 := by have this : DataW.trod enc Tryz.prog W 0 (fun _ => true) true n 28 ((cs.drop 4).take (Tryz.prog.cellsOf 28)) = some y3 := hf 3 _ rfl; rw [cd] at this; exact this
    simp only [List.map_cons, List.map_nil, Rows.uptoBulk, Rows.uptoBulkAll] at hB
    obtain ⟨z, e0, _, w0⟩ := DataW.trod_int Tryz.underlying3 f0
    obtain ⟨kv, bs, e1, hr1, hb1⟩ := open_bytes f1
    have g1 := bulk_bytes hb1
    obtain ⟨ss, ps, sv, pv, e2, hP⟩ := open_path f2 (by omega)
    obtain ⟨r, e3, r1, r2⟩ := open_dig f3
    refine ⟨⟨z, bs, ss, ps, r⟩, kv, sv, pv, ?_, ⟨int_of_wf w0, hr1 (by omega), by show bs.length ≤ _; omega, hP, ⟨r1, r2⟩⟩⟩
    have hd : cs.drop 36 = [] := List.drop_eq_nil_of_le (by omega)
    have this := o_split cs 0 1
    rw [e0, o_split cs 1 1, e1, o_split cs 2 2, e2, o_split cs 4 32, e3, hd, List.drop_zero] at this
    rw [this]
    simp [askH]

set_option maxRecDepth 100000 in
theorem open_askhv {b0 : Nat} {v : Value} {d : DataW H} {ps : List MemPlace} (hv : Value.okWide Tryz.prog W .any b0 30 v) (h : DataW.Trod enc Tryz.prog W 0 (fun _ => true) true 30 v d ps) (hB : Rows.uptoBulk d ≤ 1048576) :
    ∃ (q : AskH) (kv sv pv : Value), v = .agg (askH q kv sv pv).toArray ∧ OkH W q kv sv pv := by
  unfold Value.okWide at hv
  rw [Tryz.underlying30] at hv
  obtain ⟨cs, rfl, _, _⟩ := hv
  obtain ⟨fuel, hf⟩ := h
  obtain ⟨q, kv, sv, pv, e, h1⟩ := open_askh hf hB
  refine ⟨q, kv, sv, pv, ?_, h1⟩
  simp only [Value.cells] at e
  rw [← e]

set_option maxRecDepth 100000 in
theorem open_pathv {b0 : Nat} {v : Value} {d : DataW H} {ps : List MemPlace} (hv : Value.okWide Tryz.prog W .any b0 26 v) (h : DataW.Trod enc Tryz.prog W 0 (fun _ => true) true 26 v d ps) (hB : Rows.uptoBulk d ≤ 1048576) :
    ∃ ss ps sv pv, v = .agg #[sv, pv] ∧ OkP W ss ps sv pv := by
  unfold Value.okWide at hv
  rw [Tryz.underlying26] at hv
  obtain ⟨cs, rfl, _, _⟩ := hv
  obtain ⟨fuel, hf⟩ := h
  obtain ⟨ss, ps, sv, pv, e, h1⟩ := open_path hf hB
  refine ⟨ss, ps, sv, pv, ?_, h1⟩
  simp only [Value.cells] at e
  have := congrArg List.toArray e
  simp only [Array.toArray_toList] at this
  rw [this]
end
end Go.Proofs.YtjafmnemobcipaaGreatDoor
namespace Go.Proofs.YtjafmnemobcipaaGreatDoor
open Go.RowKit Go.BigFrame
set_option linter.unusedVariables false
set_option linter.unusedSimpArgs false

theorem h_mid {w : World} {g n : Nat} {t : TypeId} {fr : Nat × Nat} (a b c : List Value) (h : w.heap[g]? = some (.cells (a ++ (b ++ c)).toArray t fr)) (hn : a.length = n) : w.rangeAt g n b := by
  subst hn
  intro j v hv
  have hj := (List.getElem?_eq_some_iff.1 hv).1
  rw [cell_of_row w g _ _ t fr h, List.getElem?_toArray, List.getElem?_append_right (by omega), Nat.add_sub_cancel_left, List.getElem?_append_left hj, hv]
theorem askH_cells {w : World} {g : Nat} {t : TypeId} {fr : Nat × Nat} {q : AskH} {kv sv pv : Value} (h : w.heap[g]? = some (.cells (askH q kv sv pv).toArray t fr)) :
    w.cell? ⟨g, 0, none⟩ = some (.int .i64 q.z) ∧ w.cell? ⟨g, 1, none⟩ = some kv ∧ w.cell? ⟨g, 2, none⟩ = some sv ∧ w.cell? ⟨g, 3, none⟩ = some pv ∧ w.rangeAt g 4 (q.r.map u8) := by
  unfold askH at h
  have h4 := h_mid (n := 4) [.int .i64 q.z, kv, sv, pv] (q.r.map u8) [] (by simpa using h) rfl
  have c : ∀ j v, ([.int .i64 q.z, kv, sv, pv] : List Value)[j]? = some v → w.cell? ⟨g, j, none⟩ = some v := by
    intro j v hv
    rw [cell_of_row w g _ _ t fr h, List.getElem?_toArray, List.getElem?_append_left (List.getElem?_eq_some_iff.1 hv).1, hv]
  exact ⟨c 0 _ rfl, c 1 _ rfl, c 2 _ rfl, c 3 _ rfl, h4⟩

theorem wpList_load_midG {P : Program} {ops : Array Oper} {rest : List Oper} {op : Oper} {a : Act} {w : World} {Q : Exit → Act → World → Prop} (hw : Region.wanted op (yielded ops a.tmps) = true) (ty : TypeId) (x : Operand) (ho : op.op = .load ty x)
    (b o : Nat) (hx : a.eval x = .pointer (some ⟨b, o, none⟩)) (cs : List Value) (d : TypeDesc) (hc : w.rangeAt b o cs)
    (hu : P.underlying ty = some d) (hd : d.isRow = true) (hi : (P.info? ty).map (·.size) = some cs.length)
    (h : wpList P ops Q rest (a.put op.dst (.agg cs.toArray)) w) : wpList P ops Q (op :: rest) a w :=
  wpList_want hw fun _ hK => wp_load_mid ty x ho b o hx cs d hc hu hd hi (hK _ _ h)

theorem Tryz.size_askh : (Tryz.prog.info? 30).map (·.size) = some 36 := by kernel_rfl
theorem OkP.s9 {w : World} {ss : List (Nat × List (List Nat))} {ps : List (List Nat × List Nat)} {sv pv : Value} (h : OkP w ss ps sv pv) : ss.length ≤ 1000000000000 := by have := h.sl; omega
theorem OkP.p9 {w : World} {ss : List (Nat × List (List Nat))} {ps : List (List Nat × List Nat)} {sv pv : Value} (h : OkP w ss ps sv pv) : ps.length ≤ 1000000000000 := by have := h.pl; omega
theorem OkP.k9 {w : World} {ss : List (Nat × List (List Nat))} {ps : List (List Nat × List Nat)} {sv pv : Value} (h : OkP w ss ps sv pv) : ∀ s ∈ ss, s.2.length ≤ 1000000000 := fun s hs => by have := h.kl s hs; omega
end Go.Proofs.YtjafmnemobcipaaGreatDoor
namespace Go.Proofs.YtjafmnemobcipaaGreatDoor
open Go.RowKit Go.BigFrame
set_option linter.unusedVariables false
set_option linter.unusedSimpArgs false
section
variable {α : Type}
/-- The cells of elements of two cells. -/
def cells2 (ts : List (α × Value × Value)) : List Value := ts.flatMap fun t => [t.2.1, t.2.2]
theorem cells2_len (ts : List (α × Value × Value)) : (cells2 ts).length = ts.length * 2 := by
  induction ts with
  | nil => rfl
  | cons t r ih => simp only [cells2, List.flatMap_cons, List.length_append, List.length_cons, List.length_nil] at ih ⊢; omega
theorem cells2_app (ts : List (α × Value × Value)) (t : α × Value × Value) : cells2 (ts ++ [t]) = cells2 ts ++ [t.2.1, t.2.2] := by simp [cells2]
theorem cells2_get : ∀ (ts : List (α × Value × Value)) (i : Nat) (h : i < ts.length), (cells2 ts)[2 * i]? = some ts[i].2.1 ∧ (cells2 ts)[2 * i + 1]? = some ts[i].2.2
  | t :: r, 0, _ => by simp [cells2]
  | t :: r, i + 1, h => by
    have h' : i < r.length := by simpa using h
    have := cells2_get r i h'
    have e : cells2 (t :: r) = t.2.1 :: t.2.2 :: cells2 r := by simp [cells2]
    rw [e, show 2 * (i + 1) = 2 * i + 1 + 1 by omega]
    simpa using this
/-- How an element reads, and the blocks that its lists lie in. -/
structure Kind2 (α : Type) where
  T : TypeId
  R : World → α → Value → Value → Prop
  B : α → Value → Value → List Nat
  keep : ∀ {L : List Nat} {w w' : World} {a : α} {x y : Value}, R w a x y → Kept L w w' → (∀ b ∈ B a x y, b ∉ L) → R w' a x y
/-- Elements of two cells in memory of their own, their lists in memory of their own. -/
structure Own2 (K : Kind2 α) (base : Nat) (w : World) (v : Value) (ts : List (α × Value × Value)) : Prop where
  own : w.ownsRow base K.T 2 v ts.length (cells2 ts)
  ok : ∀ t ∈ ts, K.R w t.1 t.2.1 t.2.2
  apart : ∀ t ∈ ts, ∀ b ∈ K.B t.1 t.2.1 t.2.2, v.ownBlock ≠ some b ∧ base ≤ b ∧ b < w.heap.size
theorem Own2.start (K : Kind2 α) (base : Nat) (w : World) : Own2 K base w (.slice none 0 0) [] := ⟨World.ownsRow_nil _ _ _ _, by simp, by simp⟩
theorem Own2.pass {K : Kind2 α} {base : Nat} {w w' : World} {v : Value} {ts : List (α × Value × Value)} {M : List Nat} (h : Own2 K base w v ts) (k : Kept M w w') (hM : ∀ x ∈ M, x < base) : Own2 K base w' v ts :=
  ⟨k.owns h.own (fun g hg hm => by have := (h.own.lt g hg).1; have := hM g hm; omega), fun t ht => K.keep (h.ok t ht) k (fun b hb hm => by have := (h.apart t ht b hb).2.1; have := hM b hm; omega), fun t ht b hb => by have h9 := h.apart t ht b hb; exact ⟨h9.1, h9.2.1, Nat.lt_of_lt_of_le h9.2.2 k.size⟩⟩
theorem Own2.push {K : Kind2 α} {base : Nat} {w W : World} {v : Value} {ts : List (α × Value × Value)} (h : Own2 K base w v ts) {a : α} {x y : Value} (hr : K.R w a x y) (hb : ∀ b ∈ K.B a x y, v.ownBlock ≠ some b ∧ base ≤ b ∧ b < w.heap.size) {g cap : Nat}
    (o : W.ownsRow base K.T 2 (.slice (some ⟨g, 0, none⟩) (ts.length + 1) cap) (ts.length + 1) (cells2 ts ++ [x, y])) (gr : w.grownBy W v.ownBlock) (hg : v.ownBlock = some g ∨ g = w.heap.size) : Own2 K base W (.slice (some ⟨g, 0, none⟩) (ts.length + 1) cap) (ts ++ [(a, x, y)]) := by
  have kW : Kept v.ownBlock.toList w W := (Kept.refl _ w).grown gr (by intro k hk; left; simp [hk])
  have key : ∀ t ∈ ts ++ [(a, x, y)], K.R w t.1 t.2.1 t.2.2 ∧ ∀ b ∈ K.B t.1 t.2.1 t.2.2, v.ownBlock ≠ some b ∧ base ≤ b ∧ b < w.heap.size := by
    intro t ht
    rcases List.mem_append.1 ht with ht | ht
    · exact ⟨h.ok t ht, h.apart t ht⟩
    · rw [List.mem_singleton] at ht; subst ht; exact ⟨hr, hb⟩
  refine ⟨?_, fun t ht => K.keep (key t ht).1 kW (fun b hb hm => ((key t ht).2 b hb).1 (by simpa using hm)), fun t ht b hb => ?_⟩
  · rw [cells2_app, List.length_append]; exact o
  · have h9 := (key t ht).2 b hb
    refine ⟨fun e => ?_, h9.2.1, Nat.lt_of_lt_of_le h9.2.2 kW.size⟩
    simp only [Value.ownBlock, Option.some.injEq] at e
    subst e
    rcases hg with hg | hg
    · exact h9.1 hg
    · omega
end

/-- Blocks of digests: of none none. -/
def dblk (v : Value) (ds : List (List Nat)) : List Nat := if ds = [] then [] else blk v
theorem RdD.keptD {L : List Nat} {w w' : World} {v : Value} {ds : List (List Nat)} (h : RdD w v ds) (k : Kept L w w') (hn : ∀ x ∈ dblk v ds, x ∉ L) : RdD w' v ds := by
  obtain ⟨ao, len, cap, rfl, h1, h2, h3, h4, h5⟩ := h
  refine ⟨ao, len, cap, rfl, h1, h2, h3, h4, fun hp => ?_⟩
  obtain ⟨b, off, rfl, hc⟩ := h5 hp
  have hne : ds ≠ [] := by rintro rfl; simp at h1; omega
  refine ⟨b, off, rfl, fun i hi j u hu => k.cell (hc i hi j u hu) (hn b ?_)⟩
  unfold dblk
  rw [if_neg hne]
  simp [blk]
def eblk (v : Value) (bs : List Nat) : List Nat := if bs = [] then [] else blk v
theorem Rd.keptE {L : List Nat} {w w' : World} {v : Value} {bs : List Nat} (h : Rd w v bs) (k : Kept L w w') (hn : ∀ x ∈ eblk v bs, x ∉ L) : Rd w' v bs := by
  by_cases he : bs = []
  · subst he
    obtain ⟨ao, len, cap, rfl, h1, h2, h3, h4, h5, h6⟩ := h
    exact ⟨ao, len, cap, rfl, h1, h2, h3, h4, h5, fun hp => by simp at h1; omega⟩
  · exact h.kept k (by unfold eblk at hn; rw [if_neg he] at hn; exact hn)
def kStep : Kind2 (Nat × List (List Nat)) := ⟨49, fun w s x y => s.1 < 65536 ∧ x = .int .u16 (s.1 : Int) ∧ RdD w y s.2, fun s x y => dblk y s.2, fun h k hn => ⟨h.1, h.2.1, h.2.2.keptD k hn⟩⟩
def kPair : Kind2 (List Nat × List Nat) := ⟨51, fun w p x y => Rd w x p.1 ∧ Rd w y p.2, fun p x y => eblk x p.1 ++ eblk y p.2, fun h k hn => ⟨h.1.keptE k (fun b hb => hn b (List.mem_append_left _ hb)), h.2.keptE k (fun b hb => hn b (List.mem_append_right _ hb))⟩⟩
theorem Own2.rdS {base : Nat} {w : World} {v : Value} {ts : List ((Nat × List (List Nat)) × Value × Value)} (h : Own2 kStep base w v ts) : RdS w v (ts.map (·.1)) := by
  rcases h.own.2 with ⟨rfl, h0⟩ | ⟨g, cap, cur, rfl, _, hg, hc, hm', hs, ht⟩
  · have : ts = [] := List.eq_nil_of_length_eq_zero h0
    subst this
    exact RdS.nil w
  · refine ⟨some ⟨g, 0, none⟩, ts.length, cap, ts.map (·.2.2), rfl, by simp, hc, by unfold maxLen at hm'; omega, fun i hi => ?_, fun _ => ⟨g, 0, rfl, fun i hi => ?_⟩⟩
    · have h9 := h.ok ts[i] (List.getElem_mem hi)
      have := And.intro h9.1 h9.2.2
      simpa [List.getD_eq_getElem?_getD, hi] using this
    · have h9 := h.ok ts[i] (List.getElem_mem hi)
      have hx := cells2_get ts i hi
      have c0 := h.own.cells (g := g) rfl (2 * i) _ hx.1
      have c1 := h.own.cells (g := g) rfl (2 * i + 1) _ hx.2
      rw [Addr.add_mid] at c0 c1
      rw [h9.2.1] at c0
      rw [show 0 + i * 2 = 0 + 2 * i by omega, show 0 + 2 * i + 1 = 0 + (2 * i + 1) by omega]
      have := And.intro c0 c1
      simpa [List.getD_eq_getElem?_getD, hi] using this
theorem Own2.rdK {base : Nat} {w : World} {v : Value} {ts : List ((List Nat × List Nat) × Value × Value)} (h : Own2 kPair base w v ts) : RdK w v (ts.map (·.1)) := by
  rcases h.own.2 with ⟨rfl, h0⟩ | ⟨g, cap, cur, rfl, _, hg, hc, hm', hs, ht⟩
  · have : ts = [] := List.eq_nil_of_length_eq_zero h0
    subst this
    exact ⟨none, 0, 0, [], [], rfl, rfl, Nat.le_refl _, by omega, fun i h => by simp at h, fun h => by simp at h⟩
  · refine ⟨some ⟨g, 0, none⟩, ts.length, cap, ts.map (·.2.1), ts.map (·.2.2), rfl, by simp, hc, by unfold maxLen at hm'; omega, fun i hi => ?_, fun _ => ⟨g, 0, rfl, fun i hi => ?_⟩⟩
    · have h9 := h.ok ts[i] (List.getElem_mem hi)
      have := And.intro h9.1 h9.2
      simpa [List.getD_eq_getElem?_getD, hi] using this
    · have hx := cells2_get ts i hi
      have c0 := h.own.cells (g := g) rfl (2 * i) _ hx.1
      have c1 := h.own.cells (g := g) rfl (2 * i + 1) _ hx.2
      rw [Addr.add_mid] at c0 c1
      rw [show 0 + i * 2 = 0 + 2 * i by omega, show 0 + 2 * i + 1 = 0 + (2 * i + 1) by omega]
      have := And.intro c0 c1
      simpa [List.getD_eq_getElem?_getD, hi] using this

theorem Tryz.infoS2 : (Tryz.prog.info? 49).map (fun i => (i.zero, i.size, i.bytes)) = some (some (.agg #[.int .u16 0, .slice none 0 0]), 2, 32) := by kernel_rfl
theorem Tryz.infoP2 : (Tryz.prog.info? 51).map (fun i => (i.zero, i.size, i.bytes)) = some (some (.agg #[.slice none 0 0, .slice none 0 0]), 2, 48) := by kernel_rfl
theorem pushS {α : Type} (w : World) (base : Nat) (v : Value) (ts : List (α × Value × Value)) (x y : Value) (H : Nat) (h : w.ownsRow base 49 2 v ts.length (cells2 ts)) (hnew : w.heap[H]? = some (.cells #[x, y] 49 (0, 0))) (hx : x.oneCell' = true) (hy : y.oneCell' = true) (hl : ts.length + 1 ≤ 1000000000) (hb : base ≤ w.heap.size) :
    ∃ g cap w1, (Builtin.append_ #[23, 23] 23 #[v, .slice (some ⟨H, 0, none⟩) 1 1]).run Tryz.prog w = .ok (.slice (some ⟨g, 0, none⟩) (ts.length + 1) cap) w1 ∧
      w1.ownsRow base 49 2 (.slice (some ⟨g, 0, none⟩) (ts.length + 1) cap) (ts.length + 1) (cells2 ts ++ [x, y]) ∧ w.grownBy w1 v.ownBlock ∧ (v.ownBlock = some g ∨ g = w.heap.size) := by
  obtain ⟨i0, hi, hz0, hz1, hz2⟩ := info_parts Tryz.infoS2
  obtain ⟨g, cap, w1, hr, hown, hgrow, hat, hlt⟩ := run_append_lies (P := Tryz.prog) w 23 23 base 49 i0 (.agg #[.int .u16 0, .slice none 0 0]) 2 32 Tryz.underlying23 hi hz0 hz1 hz2 rfl (by decide)
    v ts.length (cells2 ts) h ⟨H, 0, none⟩ 1 1 [x, y] rfl (World.news_of_block hnew) (by intro u hu; simp at hu; rcases hu with rfl | rfl; exact hx; exact hy) (by decide) (by unfold maxLen; omega) (by omega) hb _ rfl
  exact ⟨g, cap, w1, hr, hown, hgrow, hat⟩
theorem pushP {α : Type} (w : World) (base : Nat) (v : Value) (ts : List (α × Value × Value)) (x y : Value) (H : Nat) (h : w.ownsRow base 51 2 v ts.length (cells2 ts)) (hnew : w.heap[H]? = some (.cells #[x, y] 51 (0, 0))) (hx : x.oneCell' = true) (hy : y.oneCell' = true) (hl : ts.length + 1 ≤ 1000000000) (hb : base ≤ w.heap.size) :
    ∃ g cap w1, (Builtin.append_ #[24, 24] 24 #[v, .slice (some ⟨H, 0, none⟩) 1 1]).run Tryz.prog w = .ok (.slice (some ⟨g, 0, none⟩) (ts.length + 1) cap) w1 ∧
      w1.ownsRow base 51 2 (.slice (some ⟨g, 0, none⟩) (ts.length + 1) cap) (ts.length + 1) (cells2 ts ++ [x, y]) ∧ w.grownBy w1 v.ownBlock ∧ (v.ownBlock = some g ∨ g = w.heap.size) := by
  obtain ⟨i0, hi, hz0, hz1, hz2⟩ := info_parts Tryz.infoP2
  obtain ⟨g, cap, w1, hr, hown, hgrow, hat, hlt⟩ := run_append_lies (P := Tryz.prog) w 24 24 base 51 i0 (.agg #[.slice none 0 0, .slice none 0 0]) 2 48 Tryz.underlying24 hi hz0 hz1 hz2 rfl (by decide)
    v ts.length (cells2 ts) h ⟨H, 0, none⟩ 1 1 [x, y] rfl (World.news_of_block hnew) (by intro u hu; simp at hu; rcases hu with rfl | rfl; exact hx; exact hy) (by decide) (by unfold maxLen; omega) (by omega) hb _ rfl
  exact ⟨g, cap, w1, hr, hown, hgrow, hat⟩
theorem wp_append {P : Program} {o : Oper} {a : Act} {w : World} {K : Act → World → Prop} {Q : Exit → Act → World → Prop} {s x : Operand} {t : TypeId} (ho : o.op = .call { callee := .builtin .append, args := #[s, x], argTypes := #[t, t] }) (hty : o.type = t) {v u r : Value} {w1 : World} (hs : a.eval s = v) (hx : a.eval x = u)
    (hrun : (Builtin.append_ #[t, t] t #[v, u]).run P w = .ok r w1) (hK : K (a.put o.dst r) w1) : o.wp P a w K Q := by
  unfold Oper.wp execOp
  simp only [ho, hty, resolve, invoke, builtin, Sem.run_bind, Sem.run_pure, Result.andThen_ok, List.map_toArray, List.map_cons, List.map_nil, hs, hx, hrun]
  exact hK
end Go.Proofs.YtjafmnemobcipaaGreatDoor
/-
  A region that draws its order, with loads that must come ahead of SOME of its stores only ('a, b = b, a' of whole rows): what holds of the world hangs on what has been carried out. No program.
-/
namespace Go.Proofs.YtjafmnemobcipaaGreatDoor
open Go
set_option linter.unusedVariables false
set_option linter.unusedSimpArgs false
section
variable {P : Program} {ops : Array Oper} {Q : Exit → Act → World → Prop} {md : Region.Mode} {S : Array Bool → World → Prop}

/-- Whatever comes up, S holds of what has come up and of the world behind it. -/
def AnyL (P : Program) (md : Region.Mode) (ops : Array Oper) (Q : Exit → Act → World → Prop) (S : Array Bool → World → Prop) : Nat → Array Bool → Act → World → Prop
  | 0, d, a, w => Region.ready md ops d = [] ∧ Q .normal a w
  | g + 1, d, a, w => (Region.ready md ops d = [] → Q .normal a w) ∧ ∀ i ∈ Region.ready md ops d, wpOp P ops Q i (fun a' w' => S (d.setIfInBounds i true) w' ∧ AnyL P md ops Q S g (d.setIfInBounds i true) a' w') a w

theorem AnyL.any : ∀ (g : Nat) (d : Array Bool) (a : Act) (w : World), AnyL P md ops Q S g d a w → wpAny P md ops Q g d a w
  | 0, _, _, _, h => h
  | g + 1, _, _, _, h => ⟨h.1, fun i hi => wpOp_mono (fun a' w' h' => AnyL.any g _ a' w' h'.2) (h.2 i hi)⟩

/-- Number i may be taken first, if it yields its value in every world that meets T, S says T as long as number t has not come up, and t waits for i. -/
theorem AnyL.first {i t : Nat} {oi ot : Oper} {v : Value} {T : World → Prop} (hi : ops[i]? = some oi) (ht : ops[t]? = some ot) (hit : t ≠ i) (hb : ∃ e ∈ ot.after, Region.binds md e = true ∧ e.on = i)
    (hsel : ∀ (j : Nat) (o : Oper) cs b, ops[j]? = some o → o.op ≠ .select cs b) (hQ : ∀ c a w, Q (.panic c) (a.put oi.dst v) w → Q (.panic c) a w)
    (hST : ∀ d w, S d w → d.getD t true = false → T w) (hSi : ∀ d w, S (d.setIfInBounds i true) w ↔ S d w) :
    ∀ (g : Nat) (d : Array Bool) (a : Act) (w : World),
      (∀ j oj, ops[j]? = some oj → j ≠ i → d.getD j true = false → (∀ e ∈ oj.after, Region.binds md e = true → e.on ≠ i) → oi.apart ops oj = true) →
      i ∈ Region.ready md ops d → YieldsIf P ops T oi v a → d.getD t true = false → S d w →
      AnyL P md ops Q S g (d.setIfInBounds i true) (a.put oi.dst v) w → AnyL P md ops Q S (g + 1) d a w := by
  intro g
  induction g with
  | zero =>
    intro d a w _ hr hy hdt hS H
    refine ⟨fun h => (by rw [h] at hr; cases hr), fun j hj => ?_⟩
    by_cases hji : j = i
    · subst hji; exact hy.wpOp hi (hST d w hS hdt) ⟨(hSi d w).2 hS, H⟩
    · have := ready_mono hj hji
      rw [H.1] at this
      cases this
  | succ g ih =>
    intro d a w hfree hr hy hdt hS H
    refine ⟨fun h => (by rw [h] at hr; cases hr), fun j hj => ?_⟩
    by_cases hji : j = i
    · subst hji; exact hy.wpOp hi (hST d w hS hdt) ⟨(hSi d w).2 hS, H⟩
    · have h1 := H.2 j (ready_mono hj hji)
      obtain ⟨hjun, oj, hoj, hall⟩ := mem_ready.1 hj
      have hnot : ∀ e ∈ oj.after, Region.binds md e = true → e.on ≠ i := fun e he hb heq => by
        have h1 := hall e he hb
        have h0 := (mem_ready.1 hr).1
        rw [heq] at h1
        rcases Nat.lt_or_ge i d.size with h' | h'
        · simp [h'] at h0 h1; rw [h0] at h1; cases h1
        · simp [Array.getElem?_eq_none h'] at h1
      have hjt : j ≠ t := fun e9 => by
        subst e9
        rw [ht] at hoj
        injection hoj with hoj
        obtain ⟨e, he, hb1, hb2⟩ := hb
        exact hnot e (by rw [← hoj]; exact he) hb1 hb2
      have h2 := wpOp_putIf hoj (hfree j oj hoj hji hjun hnot) (fun cs b => hsel i oi cs b hi) (fun cs b => hsel j oj cs b hoj) hQ hy h1
      refine wpOp_mono (fun a' w' h3 => ?_) h2
      have hc := Array.setIfInBounds_comm (xs := d) true true hji
      have hS' : S (d.setIfInBounds j true) w' := (hSi _ w').1 (by rw [hc]; exact h3.2.1)
      refine ⟨hS', ih (d.setIfInBounds j true) a' w' (fun k ok hk hki hun hno => ?_) (ready_mono hr (Ne.symm hji)) h3.1 ?_ hS' ?_⟩
      · refine hfree k ok hk hki ?_ hno
        by_cases hjk : j = k
        · subst hjk; exact hjun
        · rw [getD_set_ne true hjk] at hun; exact hun
      · rw [getD_set_ne true hjt]; exact hdt
      · rw [hc]; exact h3.2.2
theorem AnyL.take {i t : Nat} {oi ot : Oper} {v : Value} {T : World → Prop} {g : Nat} {d : Array Bool} {a : Act} {w : World} (hi : ops[i]? = some oi) (ht : ops[t]? = some ot) (hit : t ≠ i) (hs : Region.noSelect ops = true) (hf : Region.free md ops d i = true)
    (hr : (Region.ready md ops d).contains i = true) (hb : ot.after.any (fun e => Region.binds md e && e.on == i) = true) (hQ : ∀ c a w, Q (.panic c) (a.put oi.dst v) w → Q (.panic c) a w)
    (hST : ∀ d w, S d w → d.getD t true = false → T w) (hSi : ∀ d w, S (d.setIfInBounds i true) w ↔ S d w) (hy : YieldsIf P ops T oi v a) (hd : d.getD t true = false) (hS : S d w)
    (h : AnyL P md ops Q S g (d.setIfInBounds i true) (a.put oi.dst v) w) : AnyL P md ops Q S (g + 1) d a w := by
  refine AnyL.first hi ht hit ?_ (Region.noSelect_spec hs) hQ hST hSi g d a w (Region.free_spec hi hf) (by simpa using hr) hy hd hS h
  obtain ⟨e, he, h9⟩ := Array.any_eq_true'.1 hb
  simp only [Bool.and_eq_true, beq_iff_eq] at h9
  exact ⟨e, he, h9⟩
theorem AnyL.forced {i : Nat} {o : Oper} {g : Nat} {d : Array Bool} {a : Act} {w : World} (hr : Region.ready md ops d = [i]) (ho : ops[i]? = some o) (hg : o.guard = none)
    (h : ∀ K : Act → World → Prop, (∀ a' w', S (d.setIfInBounds i true) w' → AnyL P md ops Q S g (d.setIfInBounds i true) a' w' → K a' w') → o.wp P a w K Q) : AnyL P md ops Q S (g + 1) d a w := by
  refine ⟨fun h0 => (by rw [hr] at h0; cases h0), fun j hj => ?_⟩
  rw [hr] at hj
  obtain rfl : j = i := by simpa using hj
  refine wpOp_step ho (fun K' hK => ?_)
  rw [if_pos (by unfold Region.wanted; rw [hg])]
  exact h K' (fun a' w' h1 h2 => hK a' w' ⟨h1, h2⟩)
end

section
variable {P : Program} {Q : Exit → Act → World → Prop}
theorem wp_swap8 {id : Nat} {o0 o1 o2 o3 o4 o5 o6 o7 : Oper} {a : Act} {w : World} (T4 T6 : World → Prop) (hm : P.follows .mixedOrders = true) (hs : Region.noSelect #[o0, o1, o2, o3, o4, o5, o6, o7] = true)
    (f0 : Region.free .any #[o0, o1, o2, o3, o4, o5, o6, o7] #[false, false, false, false, false, false, false, false] 0 = true) (r0 : (Region.ready .any #[o0, o1, o2, o3, o4, o5, o6, o7] #[false, false, false, false, false, false, false, false]).contains 0 = true) (e0 : o4.after.any (fun e => Region.binds .any e && e.on == 0) = true)
    (f1 : Region.free .any #[o0, o1, o2, o3, o4, o5, o6, o7] #[true, false, false, false, false, false, false, false] 1 = true) (r1 : (Region.ready .any #[o0, o1, o2, o3, o4, o5, o6, o7] #[true, false, false, false, false, false, false, false]).contains 1 = true) (e1 : o4.after.any (fun e => Region.binds .any e && e.on == 1) = true)
    (f2 : Region.free .any #[o0, o1, o2, o3, o4, o5, o6, o7] #[true, true, false, false, false, false, false, false] 2 = true) (r2 : (Region.ready .any #[o0, o1, o2, o3, o4, o5, o6, o7] #[true, true, false, false, false, false, false, false]).contains 2 = true) (e2 : o6.after.any (fun e => Region.binds .any e && e.on == 2) = true)
    (f3 : Region.free .any #[o0, o1, o2, o3, o4, o5, o6, o7] #[true, true, true, false, false, false, false, false] 3 = true) (r3 : (Region.ready .any #[o0, o1, o2, o3, o4, o5, o6, o7] #[true, true, true, false, false, false, false, false]).contains 3 = true) (e3 : o4.after.any (fun e => Region.binds .any e && e.on == 3) = true)
    (r4 : Region.ready .any #[o0, o1, o2, o3, o4, o5, o6, o7] #[true, true, true, true, false, false, false, false] = [4]) (g4 : o4.guard = none)
    (r5 : Region.ready .any #[o0, o1, o2, o3, o4, o5, o6, o7] #[true, true, true, true, true, false, false, false] = [5]) (g5 : o5.guard = none)
    (r6 : Region.ready .any #[o0, o1, o2, o3, o4, o5, o6, o7] #[true, true, true, true, true, true, false, false] = [6]) (g6 : o6.guard = none)
    (r7 : Region.ready .any #[o0, o1, o2, o3, o4, o5, o6, o7] #[true, true, true, true, true, true, true, false] = [7]) (g7 : o7.guard = none)
    (rr : Region.ready .any #[o0, o1, o2, o3, o4, o5, o6, o7] #[true, true, true, true, true, true, true, true] = []) (hT4 : T4 w.drew) (hT6 : T6 w.drew) (v0 v1 v2 v3 : Value) (A0 A1 A2 A3 : Act)
    (p0 : a.put o0.dst v0 = A0) (p1 : A0.put o1.dst v1 = A1) (p2 : A1.put o2.dst v2 = A2) (p3 : A2.put o3.dst v3 = A3)
    (hy0 : YieldsIf P #[o0, o1, o2, o3, o4, o5, o6, o7] T4 o0 v0 a) (hy1 : YieldsIf P #[o0, o1, o2, o3, o4, o5, o6, o7] T4 o1 v1 A0) (hy2 : YieldsIf P #[o0, o1, o2, o3, o4, o5, o6, o7] T6 o2 v2 A1) (hy3 : YieldsIf P #[o0, o1, o2, o3, o4, o5, o6, o7] T4 o3 v3 A2)
    (W1 W2 W3 W4 : World) (s4 : ∀ K : Act → World → Prop, K A3 W1 → o4.wp P A3 w.drew K (NoPanic Q)) (k4 : T6 W1) (s5 : ∀ K : Act → World → Prop, K A3 W2 → o5.wp P A3 W1 K (NoPanic Q)) (k5 : T6 W2)
    (s6 : ∀ K : Act → World → Prop, K A3 W3 → o6.wp P A3 W2 K (NoPanic Q)) (s7 : ∀ K : Act → World → Prop, K A3 W4 → o7.wp P A3 W3 K (NoPanic Q)) (h : Q .normal A3 W4) :
    (Code.region id #[o0, o1, o2, o3, o4, o5, o6, o7] true).wp P Q a w := by
  subst p0 p1 p2 p3
  refine wp_region_noPanic ?_
  refine wp_region_any hm ?_
  refine AnyL.any (S := fun d w' => (d.getD 4 true = false → T4 w') ∧ (d.getD 6 true = false → T6 w')) _ _ _ _ ?_
  show AnyL P .any #[o0, o1, o2, o3, o4, o5, o6, o7] (NoPanic Q) _ 8 #[false, false, false, false, false, false, false, false] a w.drew
  have hSi : ∀ i, i ≠ 4 → i ≠ 6 → ∀ (d : Array Bool) (w' : World), (((d.setIfInBounds i true).getD 4 true = false → T4 w') ∧ ((d.setIfInBounds i true).getD 6 true = false → T6 w')) ↔ ((d.getD 4 true = false → T4 w') ∧ (d.getD 6 true = false → T6 w')) := by
    intro i h4 h6 d w'
    rw [getD_set_ne true h4, getD_set_ne true h6]
  have hS0 : ∀ d : Array Bool, (d.getD 4 true = false → T4 w.drew) ∧ (d.getD 6 true = false → T6 w.drew) := fun d => ⟨fun _ => hT4, fun _ => hT6⟩
  refine AnyL.take (i := 0) (t := 4) (oi := o0) (ot := o4) (T := T4) rfl rfl (by decide) hs f0 r0 e0 (fun _ _ _ h => h) (fun d w' h9 hd => h9.1 hd) (hSi 0 (by decide) (by decide)) hy0 rfl (hS0 _) ?_
  refine AnyL.take (i := 1) (t := 4) (oi := o1) (ot := o4) (T := T4) rfl rfl (by decide) hs f1 r1 e1 (fun _ _ _ h => h) (fun d w' h9 hd => h9.1 hd) (hSi 1 (by decide) (by decide)) hy1 rfl (hS0 _) ?_
  refine AnyL.take (i := 2) (t := 6) (oi := o2) (ot := o6) (T := T6) rfl rfl (by decide) hs f2 r2 e2 (fun _ _ _ h => h) (fun d w' h9 hd => h9.2 hd) (hSi 2 (by decide) (by decide)) hy2 rfl (hS0 _) ?_
  refine AnyL.take (i := 3) (t := 4) (oi := o3) (ot := o4) (T := T4) rfl rfl (by decide) hs f3 r3 e3 (fun _ _ _ h => h) (fun d w' h9 hd => h9.1 hd) (hSi 3 (by decide) (by decide)) hy3 rfl (hS0 _) ?_
  refine AnyL.forced r4 rfl g4 (fun K hK => s4 K (hK _ _ ⟨fun h9 => (by cases h9), fun _ => k4⟩ ?_))
  refine AnyL.forced r5 rfl g5 (fun K hK => s5 K (hK _ _ ⟨fun h9 => (by cases h9), fun _ => k5⟩ ?_))
  refine AnyL.forced r6 rfl g6 (fun K hK => s6 K (hK _ _ ⟨fun h9 => (by cases h9), fun h9 => (by cases h9)⟩ ?_))
  refine AnyL.forced r7 rfl g7 (fun K hK => s7 K (hK _ _ ⟨fun h9 => (by cases h9), fun h9 => (by cases h9)⟩ ?_))
  exact ⟨rr, NoPanic.normal h⟩
theorem wp_asg4 {id : Nat} {o0 o1 o2 o3 : Oper} {a : Act} {w : World} (S : World → Prop) (hm : P.follows .mixedOrders = true) (hs : Region.noSelect #[o0, o1, o2, o3] = true)
    (f0 : Region.free .any #[o0, o1, o2, o3] #[false, false, false, false] 0 = true) (r0 : (Region.ready .any #[o0, o1, o2, o3] #[false, false, false, false]).contains 0 = true) (f1 : Region.free .any #[o0, o1, o2, o3] #[true, false, false, false] 1 = true) (r1 : (Region.ready .any #[o0, o1, o2, o3] #[true, false, false, false]).contains 1 = true)
    (r2 : Region.ready .any #[o0, o1, o2, o3] #[true, true, false, false] = [2]) (r3 : Region.ready .any #[o0, o1, o2, o3] #[true, true, true, false] = [3]) (rr : Region.ready .any #[o0, o1, o2, o3] #[true, true, true, true] = []) (g2 : o2.guard = none) (g3 : o3.guard = none)
    (hS : S w.drew) (v0 v1 : Value) (A0 A1 : Act) (p0 : a.put o0.dst v0 = A0) (p1 : A0.put o1.dst v1 = A1) (hy0 : YieldsIf P #[o0, o1, o2, o3] S o0 v0 a) (hy1 : YieldsIf P #[o0, o1, o2, o3] S o1 v1 A0)
    (W1 W2 : World) (s2 : ∀ K : Act → World → Prop, K A1 W1 → o2.wp P A1 w.drew K (NoPanic Q)) (k2 : S W1) (s3 : ∀ K : Act → World → Prop, K A1 W2 → o3.wp P A1 W1 K (NoPanic Q)) (k3 : S W2) (h : Q .normal A1 W2) :
    (Code.region id #[o0, o1, o2, o3] true).wp P Q a w := by
  subst p0 p1
  refine wp_region_noPanic ?_
  refine wp_region_held_drew (S := S) hm hS (fun hH => ?_)
  show wpAnyH P .any #[o0, o1, o2, o3] (NoPanic Q) S 4 #[false, false, false, false] a w.drew
  refine wpAnyH_take (i := 0) (oi := o0) rfl hs f0 r0 (fun _ _ _ h => h) hy0 hS ?_
  refine wpAnyH_take (i := 1) (oi := o1) rfl hs f1 r1 (fun _ _ _ h => h) hy1 hS ?_
  refine wpAnyH_ready (rs := [2]) r2 (by simp) (AllReadyH.cons (o := o2) rfl (fun K hK => ?_) AllReadyH.nil)
  have wa : ∀ y, Region.wanted o2 y = true := fun y => by unfold Region.wanted; rw [g2]
  rw [if_pos (wa _)]
  refine s2 K (hK.out _ _ k2 (fun _ => ?_))
  refine wpAnyH_ready (rs := [3]) r3 (by simp) (AllReadyH.cons (o := o3) rfl (fun K hK => ?_) AllReadyH.nil)
  have wb : ∀ y, Region.wanted o3 y = true := fun y => by unfold Region.wanted; rw [g3]
  rw [if_pos (wb _)]
  refine s3 K (hK.out _ _ k3 (fun _ => ?_))
  exact ⟨rr, NoPanic.normal h⟩
end
end Go.Proofs.YtjafmnemobcipaaGreatDoor
/-
  Laws for drawn regions with a late store, by genchain.py. No program.
-/
namespace Go.Proofs.YtjafmnemobcipaaGreatDoor
open Go Go.RowKit Go.BigFrame
set_option linter.unusedVariables false
set_option linter.unusedSimpArgs false
section
variable {P : Program} {Q : Exit → Act → World → Prop}
theorem wp_tw13 {id : Nat} {o0 o1 o2 o3 o4 o5 o6 o7 o8 o9 o10 o11 o12 : Oper} {a : Act} {w : World} (hm : P.follows .mixedOrders = true) (hs : Region.noSelect #[o0, o1, o2, o3, o4, o5, o6, o7, o8, o9, o10, o11, o12] = true)
    (f0 : Region.free .any #[o0, o1, o2, o3, o4, o5, o6, o7, o8, o9, o10, o11, o12] #[false, false, false, false, false, false, false, false, false, false, false, false, false] 0 = true) (r0 : (Region.ready .any #[o0, o1, o2, o3, o4, o5, o6, o7, o8, o9, o10, o11, o12] #[false, false, false, false, false, false, false, false, false, false, false, false, false]).contains 0 = true) (e0 : o12.after.any (fun e => Region.binds .any e && e.on == 0) = true)
    (f1 : Region.free .any #[o0, o1, o2, o3, o4, o5, o6, o7, o8, o9, o10, o11, o12] #[true, false, false, false, false, false, false, false, false, false, false, false, false] 1 = true) (r1 : (Region.ready .any #[o0, o1, o2, o3, o4, o5, o6, o7, o8, o9, o10, o11, o12] #[true, false, false, false, false, false, false, false, false, false, false, false, false]).contains 1 = true) (e1 : o12.after.any (fun e => Region.binds .any e && e.on == 1) = true)
    (f2 : Region.free .any #[o0, o1, o2, o3, o4, o5, o6, o7, o8, o9, o10, o11, o12] #[true, true, false, false, false, false, false, false, false, false, false, false, false] 2 = true) (r2 : (Region.ready .any #[o0, o1, o2, o3, o4, o5, o6, o7, o8, o9, o10, o11, o12] #[true, true, false, false, false, false, false, false, false, false, false, false, false]).contains 2 = true) (e2 : o12.after.any (fun e => Region.binds .any e && e.on == 2) = true)
    (f3 : Region.free .any #[o0, o1, o2, o3, o4, o5, o6, o7, o8, o9, o10, o11, o12] #[true, true, true, false, false, false, false, false, false, false, false, false, false] 3 = true) (r3 : (Region.ready .any #[o0, o1, o2, o3, o4, o5, o6, o7, o8, o9, o10, o11, o12] #[true, true, true, false, false, false, false, false, false, false, false, false, false]).contains 3 = true) (e3 : o12.after.any (fun e => Region.binds .any e && e.on == 3) = true)
    (f5 : Region.free .any #[o0, o1, o2, o3, o4, o5, o6, o7, o8, o9, o10, o11, o12] #[true, true, true, true, false, false, false, false, false, false, false, false, false] 5 = true) (r5 : (Region.ready .any #[o0, o1, o2, o3, o4, o5, o6, o7, o8, o9, o10, o11, o12] #[true, true, true, true, false, false, false, false, false, false, false, false, false]).contains 5 = true) (e5 : o12.after.any (fun e => Region.binds .any e && e.on == 5) = true)
    (f6 : Region.free .any #[o0, o1, o2, o3, o4, o5, o6, o7, o8, o9, o10, o11, o12] #[true, true, true, true, false, true, false, false, false, false, false, false, false] 6 = true) (r6 : (Region.ready .any #[o0, o1, o2, o3, o4, o5, o6, o7, o8, o9, o10, o11, o12] #[true, true, true, true, false, true, false, false, false, false, false, false, false]).contains 6 = true) (e6 : o12.after.any (fun e => Region.binds .any e && e.on == 6) = true)
    (q4 : Region.ready .any #[o0, o1, o2, o3, o4, o5, o6, o7, o8, o9, o10, o11, o12] #[true, true, true, true, false, true, true, false, false, false, false, false, false] = [4]) (g4 : o4.guard = none)
    (q7 : Region.ready .any #[o0, o1, o2, o3, o4, o5, o6, o7, o8, o9, o10, o11, o12] #[true, true, true, true, true, true, true, false, false, false, false, false, false] = [7]) (g7 : o7.guard = none)
    (q8 : Region.ready .any #[o0, o1, o2, o3, o4, o5, o6, o7, o8, o9, o10, o11, o12] #[true, true, true, true, true, true, true, true, false, false, false, false, false] = [8]) (g8 : o8.guard = none)
    (q9 : Region.ready .any #[o0, o1, o2, o3, o4, o5, o6, o7, o8, o9, o10, o11, o12] #[true, true, true, true, true, true, true, true, true, false, false, false, false] = [9]) (g9 : o9.guard = none)
    (q10 : Region.ready .any #[o0, o1, o2, o3, o4, o5, o6, o7, o8, o9, o10, o11, o12] #[true, true, true, true, true, true, true, true, true, true, false, false, false] = [10]) (g10 : o10.guard = none)
    (q11 : Region.ready .any #[o0, o1, o2, o3, o4, o5, o6, o7, o8, o9, o10, o11, o12] #[true, true, true, true, true, true, true, true, true, true, true, false, false] = [11]) (g11 : o11.guard = none)
    (q12 : Region.ready .any #[o0, o1, o2, o3, o4, o5, o6, o7, o8, o9, o10, o11, o12] #[true, true, true, true, true, true, true, true, true, true, true, true, false] = [12]) (g12 : o12.guard = none)
    (rr : Region.ready .any #[o0, o1, o2, o3, o4, o5, o6, o7, o8, o9, o10, o11, o12] #[true, true, true, true, true, true, true, true, true, true, true, true, true] = [])
    (v0 v1 v2 v3 v5 v6 : Value) (A0 A1 A2 A3 A4 A5 : Act) (T : World → Prop)
    (I0 : World → Prop)
    (I1 : Value → World → Prop)
    (I2 : Value → Value → World → Prop)
    (I3 : Value → Value → Value → World → Prop)
    (I4 : Value → Value → Value → Value → World → Prop)
    (I5 : Value → Value → Value → Value → Value → World → Prop)
    (I6 : Value → Value → Value → Value → Value → Value → World → Prop)
    (IE : Value → Value → Value → Value → Value → Value → World → Prop)
    (p0 : a.put o0.dst v0 = A0) (hy0 : YieldsIf P #[o0, o1, o2, o3, o4, o5, o6, o7, o8, o9, o10, o11, o12] T o0 v0 a)
    (p1 : A0.put o1.dst v1 = A1) (hy1 : YieldsIf P #[o0, o1, o2, o3, o4, o5, o6, o7, o8, o9, o10, o11, o12] T o1 v1 A0)
    (p2 : A1.put o2.dst v2 = A2) (hy2 : YieldsIf P #[o0, o1, o2, o3, o4, o5, o6, o7, o8, o9, o10, o11, o12] T o2 v2 A1)
    (p3 : A2.put o3.dst v3 = A3) (hy3 : YieldsIf P #[o0, o1, o2, o3, o4, o5, o6, o7, o8, o9, o10, o11, o12] T o3 v3 A2)
    (p5 : A3.put o5.dst v5 = A4) (hy5 : YieldsIf P #[o0, o1, o2, o3, o4, o5, o6, o7, o8, o9, o10, o11, o12] T o5 v5 A3)
    (p6 : A4.put o6.dst v6 = A5) (hy6 : YieldsIf P #[o0, o1, o2, o3, o4, o5, o6, o7, o8, o9, o10, o11, o12] T o6 v6 A4)
    (i0 : I0 w.drew)
    (hIT : (∀ w', I0  w' → T w') ∧ (∀ (u0 : Value) w', I1 u0 w' → T w') ∧ (∀ (u0 u1 : Value) w', I2 u0 u1 w' → T w') ∧ (∀ (u0 u1 u2 : Value) w', I3 u0 u1 u2 w' → T w') ∧ (∀ (u0 u1 u2 u3 : Value) w', I4 u0 u1 u2 u3 w' → T w') ∧ (∀ (u0 u1 u2 u3 u4 : Value) w', I5 u0 u1 u2 u3 u4 w' → T w') ∧ (∀ (u0 u1 u2 u3 u4 u5 : Value) w', I6 u0 u1 u2 u3 u4 u5 w' → T w'))
    (s0 : ∀ w', I0  w' → ∀ K : Act → World → Prop, (∀ (u0 : Value) w2, I1 u0 w2 → K (A5.put o4.dst u0) w2) → o4.wp P A5 w' K (NoPanic Q))
    (s1 : ∀ (u0 : Value) w', I1 u0 w' → ∀ K : Act → World → Prop, (∀ (u1 : Value) w2, I2 u0 u1 w2 → K ((A5.put o4.dst u0).put o7.dst u1) w2) → o7.wp P (A5.put o4.dst u0) w' K (NoPanic Q))
    (s2 : ∀ (u0 u1 : Value) w', I2 u0 u1 w' → ∀ K : Act → World → Prop, (∀ (u2 : Value) w2, I3 u0 u1 u2 w2 → K (((A5.put o4.dst u0).put o7.dst u1).put o8.dst u2) w2) → o8.wp P ((A5.put o4.dst u0).put o7.dst u1) w' K (NoPanic Q))
    (s3 : ∀ (u0 u1 u2 : Value) w', I3 u0 u1 u2 w' → ∀ K : Act → World → Prop, (∀ (u3 : Value) w2, I4 u0 u1 u2 u3 w2 → K ((((A5.put o4.dst u0).put o7.dst u1).put o8.dst u2).put o9.dst u3) w2) → o9.wp P (((A5.put o4.dst u0).put o7.dst u1).put o8.dst u2) w' K (NoPanic Q))
    (s4 : ∀ (u0 u1 u2 u3 : Value) w', I4 u0 u1 u2 u3 w' → ∀ K : Act → World → Prop, (∀ (u4 : Value) w2, I5 u0 u1 u2 u3 u4 w2 → K (((((A5.put o4.dst u0).put o7.dst u1).put o8.dst u2).put o9.dst u3).put o10.dst u4) w2) → o10.wp P ((((A5.put o4.dst u0).put o7.dst u1).put o8.dst u2).put o9.dst u3) w' K (NoPanic Q))
    (s5 : ∀ (u0 u1 u2 u3 u4 : Value) w', I5 u0 u1 u2 u3 u4 w' → ∀ K : Act → World → Prop, (∀ (u5 : Value) w2, I6 u0 u1 u2 u3 u4 u5 w2 → K ((((((A5.put o4.dst u0).put o7.dst u1).put o8.dst u2).put o9.dst u3).put o10.dst u4).put o11.dst u5) w2) → o11.wp P (((((A5.put o4.dst u0).put o7.dst u1).put o8.dst u2).put o9.dst u3).put o10.dst u4) w' K (NoPanic Q))
    (se : ∀ (u0 u1 u2 u3 u4 u5 : Value) w', I6 u0 u1 u2 u3 u4 u5 w' → ∀ K : Act → World → Prop, (∀ w2, IE u0 u1 u2 u3 u4 u5 w2 → K ((((((A5.put o4.dst u0).put o7.dst u1).put o8.dst u2).put o9.dst u3).put o10.dst u4).put o11.dst u5) w2) → o12.wp P ((((((A5.put o4.dst u0).put o7.dst u1).put o8.dst u2).put o9.dst u3).put o10.dst u4).put o11.dst u5) w' K (NoPanic Q))
    (h : ∀ (u0 u1 u2 u3 u4 u5 : Value) w', IE u0 u1 u2 u3 u4 u5 w' → Q .normal ((((((A5.put o4.dst u0).put o7.dst u1).put o8.dst u2).put o9.dst u3).put o10.dst u4).put o11.dst u5) w') :
    (Code.region id #[o0, o1, o2, o3, o4, o5, o6, o7, o8, o9, o10, o11, o12] true).wp P Q a w := by
  subst p0 p1 p2 p3 p5 p6
  obtain ⟨z0, z1, z2, z3, z4, z5, z6⟩ := hIT
  refine wp_region_noPanic ?_
  refine wp_region_any hm ?_
  refine AnyL.any (S := fun d w' => d.getD 12 true = false → T w') _ _ _ _ ?_
  show AnyL P .any #[o0, o1, o2, o3, o4, o5, o6, o7, o8, o9, o10, o11, o12] (NoPanic Q) _ 13 #[false, false, false, false, false, false, false, false, false, false, false, false, false] a w.drew
  have hSi : ∀ i, i ≠ 12 → ∀ (d : Array Bool) (w' : World), ((d.setIfInBounds i true).getD 12 true = false → T w') ↔ (d.getD 12 true = false → T w') := by
    intro i h4 d w'
    rw [getD_set_ne true h4]
  refine AnyL.take (i := 0) (t := 12) (oi := o0) (ot := o12) (T := T) rfl rfl (by decide) hs f0 r0 e0 (fun _ _ _ h => h) (fun d w' h9 hd => h9 hd) (hSi 0 (by decide)) hy0 rfl (fun _ => z0 _ i0) ?_
  refine AnyL.take (i := 1) (t := 12) (oi := o1) (ot := o12) (T := T) rfl rfl (by decide) hs f1 r1 e1 (fun _ _ _ h => h) (fun d w' h9 hd => h9 hd) (hSi 1 (by decide)) hy1 rfl (fun _ => z0 _ i0) ?_
  refine AnyL.take (i := 2) (t := 12) (oi := o2) (ot := o12) (T := T) rfl rfl (by decide) hs f2 r2 e2 (fun _ _ _ h => h) (fun d w' h9 hd => h9 hd) (hSi 2 (by decide)) hy2 rfl (fun _ => z0 _ i0) ?_
  refine AnyL.take (i := 3) (t := 12) (oi := o3) (ot := o12) (T := T) rfl rfl (by decide) hs f3 r3 e3 (fun _ _ _ h => h) (fun d w' h9 hd => h9 hd) (hSi 3 (by decide)) hy3 rfl (fun _ => z0 _ i0) ?_
  refine AnyL.take (i := 5) (t := 12) (oi := o5) (ot := o12) (T := T) rfl rfl (by decide) hs f5 r5 e5 (fun _ _ _ h => h) (fun d w' h9 hd => h9 hd) (hSi 5 (by decide)) hy5 rfl (fun _ => z0 _ i0) ?_
  refine AnyL.take (i := 6) (t := 12) (oi := o6) (ot := o12) (T := T) rfl rfl (by decide) hs f6 r6 e6 (fun _ _ _ h => h) (fun d w' h9 hd => h9 hd) (hSi 6 (by decide)) hy6 rfl (fun _ => z0 _ i0) ?_
  refine AnyL.forced q4 rfl g4 (fun K hK => s0  w.drew i0 K (fun u0 w1 i1 => hK _ _ (fun _ => z1 u0 w1 i1) ?_))
  refine AnyL.forced q7 rfl g7 (fun K hK => s1 u0 w1 i1 K (fun u1 w2 i2 => hK _ _ (fun _ => z2 u0 u1 w2 i2) ?_))
  refine AnyL.forced q8 rfl g8 (fun K hK => s2 u0 u1 w2 i2 K (fun u2 w3 i3 => hK _ _ (fun _ => z3 u0 u1 u2 w3 i3) ?_))
  refine AnyL.forced q9 rfl g9 (fun K hK => s3 u0 u1 u2 w3 i3 K (fun u3 w4 i4 => hK _ _ (fun _ => z4 u0 u1 u2 u3 w4 i4) ?_))
  refine AnyL.forced q10 rfl g10 (fun K hK => s4 u0 u1 u2 u3 w4 i4 K (fun u4 w5 i5 => hK _ _ (fun _ => z5 u0 u1 u2 u3 u4 w5 i5) ?_))
  refine AnyL.forced q11 rfl g11 (fun K hK => s5 u0 u1 u2 u3 u4 w5 i5 K (fun u5 w6 i6 => hK _ _ (fun _ => z6 u0 u1 u2 u3 u4 u5 w6 i6) ?_))
  refine AnyL.forced q12 rfl g12 (fun K hK => se u0 u1 u2 u3 u4 u5 w6 i6 K (fun we ie => hK _ _ (fun h9 => (by cases h9)) ?_))
  exact ⟨rr, NoPanic.normal (h u0 u1 u2 u3 u4 u5 we ie)⟩

end
end Go.Proofs.YtjafmnemobcipaaGreatDoor
