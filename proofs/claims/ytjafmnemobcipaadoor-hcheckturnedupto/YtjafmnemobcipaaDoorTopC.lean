import Derived.Test.YtjafmnemobcipaaDoorTopB
import Derived.Test.YtjafmnemobcipaaDoorRowz
import Derived.Deep.RegionHeld3
import Derived.Lib.SlBytesConst
import Derived.Lib.SmallJoins
import Derived.Lib.ConvBytes
import Derived.Laws.AppendOwn
import Derived.Test.YtjafmnemobcipaaDoorBase
import Derived.Test.YtjafmnemobcipaaDoorCards
import Derived.Test.YtjafmnemobcipaaDoorTie
import Derived.ProofKit
import Derived.OpenShut
import Derived.Deep.Slices
import Derived.SizedLaws
import Derived.Test.YtjafmnemobcipaaDoorTopA
import Derived.Deep.SlicePairs
namespace Go.Proofs.YtjafmnemobcipaaDoor
open Go.RowKit Go.BigFrame
set_option linter.unusedVariables false
set_option linter.unusedSimpArgs false

theorem cnt_step (b k : Nat) : cnt b (k + 1) = cnt b k + (if b.testBit k then 1 else 0) := by
  unfold cnt
  rw [setB]
  split <;> simp
theorem cnt_mono (b : Nat) {i : Nat} : ∀ {j : Nat}, i ≤ j → cnt b i ≤ cnt b j
  | 0, h => by obtain rfl : i = 0 := by omega
               exact Nat.le_refl _
  | j + 1, h => by
    rcases Nat.lt_or_ge j i with h9 | h9
    · obtain rfl : i = j + 1 := by omega
      exact Nat.le_refl _
    · have := cnt_mono b (j := j) h9
      rw [cnt_step]; omega
theorem rank_fit {b n : Nat} {c : Nat} (h : fitS b n (c : Int) true = true) : rankB b (c : Int) ≤ n := by
  unfold fitS at h
  simp only [Bool.and_eq_true, decide_eq_true_eq, beq_iff_eq] at h
  obtain ⟨_, h1, h2⟩ := h
  unfold hasB at h1
  simp only [Bool.and_eq_true, decide_eq_true_eq, Int.toNat_natCast] at h1
  obtain ⟨_, h3, h4⟩ := h1
  unfold rankB
  rw [if_neg (by omega), if_pos h3, Int.toNat_natCast]
  have h5 := cnt_step b c
  rw [if_pos h4] at h5
  have h6 := cnt_mono b (i := c + 1) (j := 16) (by omega)
  simp at h2
  omega
theorem fitsB_at {z : Int} {ks : List Nat} {ss : List (Nat × List (List Nat))} {m : Nat} : ∀ (n : Nat), fitsB z ks ss m n = true → ∀ i, i < n → fitS (ss.getD i (0, [])).1 (ss.getD i (0, [])).2.length (atC z ks i) (decide (i + 1 < ss.length) || decide (0 < m)) = true
  | 0, _, i, hi => by omega
  | n + 1, h, i, hi => by
    rw [fitsB, Bool.and_eq_true] at h
    rcases Nat.lt_or_ge i n with h9 | h9
    · exact fitsB_at n h.1 i h9
    · obtain rfl : i = n := by omega
      exact h.2
theorem prov_fit {z : Int} {ks : List Nat} {ss : List (Nat × List (List Nat))} {ps : List (List Nat × List Nat)} (h : provB z ks ss ps = true) : ∀ i, i < footN ss ps → rankB (ss.getD i (0, [])).1 (atC z ks i : Nat) ≤ (ss.getD i (0, [])).2.length := by
  intro i hi
  unfold provB at h
  simp only [Bool.and_eq_true] at h
  unfold footN at hi
  have h9 := fitsB_at ss.length h.2.1 i (by split at hi <;> omega)
  have h8 : (decide (i + 1 < ss.length) || decide (0 < ps.length)) = true := by
    split at hi
    · simp; omega
    · simp; omega
  rw [h8] at h9
  exact rank_fit h9
def rtE (z : Int) (key : List Nat) (ss : List (Nat × List (List Nat))) (ps : List (List Nat × List Nat)) : Nat :=
  if hfE z key [] ss = 0 then (if provB z (keyS z key) ss ps then 0 else 10) else hfE z key [] ss
def rtD (z : Int) (key : List Nat) (ss : List (Nat × List (List Nat))) (ps : List (List Nat × List Nat)) : List Nat := if rtE z key ss ps = 0 then rooD z key ss ps else List.replicate 32 0
def rtV (z : Int) (key : List Nat) (ss : List (Nat × List (List Nat))) (ps : List (List Nat × List Nat)) : Option (List Nat) := if rtE z key ss ps = 0 then valH key ps else none

theorem results_cell_tmp3 {P : Program} {fn : Func} {p q r s : Tmp} {ty : TypeId} (h : fn.results = #[.cell p ty, .tmp q, .tmp r, .tmp s]) (tmps : Array Value) (w : World) (g : Nat) (t : TypeId) (cs : Array Value) (fr : Nat × Nat) (d : TypeDesc)
    (hp : tmps.getD p undef = .pointer (some ⟨g, 0, none⟩)) (hg : w.heap[g]? = some (.cells cs t fr))
    (hu : P.underlying ty = some d) (hd : (match d with | .struct _ | .array _ _ => true | _ => false) = true) (hi : (P.info? ty).map (·.size) = some cs.size) (v u x : Value) (hq : tmps.getD q undef = v) (hr : tmps.getD r undef = u) (hs : tmps.getD s undef = x) :
    (results fn tmps).run P w = .ok (.tuple #[.agg cs, v, u, x]) w := by
  have hp' : tmps[p]?.getD undef = .pointer (some ⟨g, 0, none⟩) := by simpa using hp
  have hq' : tmps[q]?.getD undef = v := by simpa using hq
  have hr' : tmps[r]?.getD undef = u := by simpa using hr
  have hs' : tmps[s]?.getD undef = x := by simpa using hs
  simp [results, h, hp', hq', hr', hs', asAddr, run_loadVar_row w g t ty cs fr d hg hu hd hi]
theorem hfE_zero {z : Int} {key : List Nat} {kn : List (List Nat)} {ss : List (Nat × List (List Nat))} (h : hfE z key kn ss = 0) : widthB z = true ∧ key.length ≤ 64 := by
  unfold hfE at h
  by_cases h1 : widthB z = false
  · rw [if_pos h1] at h; omega
  · rw [if_neg h1] at h
    by_cases h2 : 64 < key.length
    · rw [if_pos h2] at h; omega
    · exact ⟨by simpa using h1, by omega⟩
theorem RdD.nil (w : World) : RdD w (.slice none 0 0) [] := ⟨none, 0, 0, rfl, rfl, Nat.le_refl _, by omega, fun d hd => (by cases hd), fun h => by omega⟩

theorem cliD_dg (z : Int) (ks : List Nat) (ss : List (Nat × List (List Nat))) : ∀ (k : Nat) (d : List Nat), Dg d → Dg (cliD z ks ss k d)
  | 0, d, h => h
  | k + 1, d, h => by rw [cliD]; exact cliD_dg z ks ss k _ (sunD_dg _ _ _)
theorem footD_dg (z : Int) (ss : List (Nat × List (List Nat))) (ps : List (List Nat × List Nat)) : Dg (footD z ss ps) := by
  unfold footD brD
  split
  · exact sumD_dg _ _
  · split
    · exact sumD_dg _ _
    · exact sunD_dg _ _ _

set_option maxRecDepth 100000 in
set_option maxHeartbeats 4000000 in
theorem hrootOf_any (z : Int) (kv : Value) (key : List Nat) (sv pv : Value) (ss : List (Nat × List (List Nat))) (ps : List (List Nat × List Nat)) (w : World) (hz : -9223372036854775808 ≤ z ∧ z ≤ 9223372036854775807) (hk : Rd w kv key) (hs : RdS w sv ss) (hp : RdK w pv ps) (hT : Tabs w) (hpb : (pairB ps).length ≤ 1000000000000)
    (hsl : ss.length ≤ 1000000000000) (hpl : ps.length ≤ 1000000000000) (hkl : ∀ s ∈ ss, s.2.length ≤ 1000000000) :
    Calls Tryd.prog 6 #[.int .i64 z, kv, .agg #[sv, pv]] w fun e w' => (∃ v', e = .returned (.tuple #[.agg (brow (rtD z key ss ps)), v', .bool (rtV z key ss ps).isSome, .int .i64 (rtE z key ss ps : Int)]) ∧ Rd w' v' ((rtV z key ss ps).getD [])) ∧ Kept [] w w' := by
  obtain ⟨sa, sn, sc, vs0, rfl, _⟩ := id hs
  obtain ⟨pa, pn, pc, _, _, rfl, _⟩ := id hp
  obtain ⟨ka, kn, kc, rfl, hkn, _⟩ := id hk
  have HP := hide hp
  have HS := hide hs
  have HT := hide hT
  have HKY := hide hk
  have HKL := hide hkl
  clear hp hs hT hkl hk
  have HK0 := hide (((Kept.refl [] w).alloc (.cells #[.slice sa sn sc, .slice pa pn pc] 26)).alloc (.cells (zb 32) 29))
  have HG0 := hide (heap_alloc2_old w (.cells #[.slice sa sn sc, .slice pa pn pc] 26) (.cells (zb 32) 29))
  have HZ0 := hide (heap_alloc2_new w (.cells #[.slice sa sn sc, .slice pa pn pc] 26) (.cells (zb 32) 29))
  obtain ⟨W, hW⟩ : ∃ W, (w.alloc (.cells #[.slice sa sn sc, .slice pa pn pc] 26)).alloc (.cells (zb 32) 29) = W := ⟨_, rfl⟩
  rw [hW] at HK0 HG0 HZ0
  have c0 : W.cell? ⟨w.heap.size, 0, none⟩ = some (.slice sa sn sc) := cell_of_row W w.heap.size 0 _ _ _ (unhide HG0)
  go_enter Tryd.func6, Tryd.ntmps6
  go_wp2_with (first | (rw [zb32, hW]))
  clear hW
  refine Calls.mono (hformed_any z _ key _ ss _ [] _ hz ((unhide HKY).old (unhide HK0) (by simp)) ((unhide HS).old (unhide HK0)) (RdD.nil _)) ?_
  rintro e w1 ⟨rfl, k1⟩
  have HK1 := hide ((unhide HK0).trans k1 (by simp))
  have HG1 := hide (k1.heap (unhide HG0) (by simp))
  have HZ1 := hide (k1.heap (unhide HZ0) (by simp))
  clear k1 c0 HK0 HG0 HZ0
  by_cases hf : hfE z key [] ss = 0
  · have HE := hide (by unfold rtE; rw [if_pos hf] : rtE z key ss ps = if provB z (keyS z key) ss ps then 0 else 10)
    obtain ⟨hw, hk64⟩ := hfE_zero hf
    rw [hf]
    clear hf
    go_wp2_with fail
    refine Calls.mono (key_all z _ key _ hz ((unhide HKY).old (unhide HK1) (by simp)) (by omega) ((unhide HT).k (unhide HK1))) ?_
    rintro e w2 ⟨rfl, k2⟩
    have HKD : keyS z key = sumD z (2 :: key) := rfl
    rw [← HKD]
    clear HKD
    have HDG := hide (keyS_dg z key)
    have hd := (unhide HDG).1
    have HSZ := hide (Tryd.szD hd)
    have kN := (k2.alloc (.cells (zb 32) 29)).setRow (g := w2.heap.size) (Or.inr k2.size) (brow (keyS z key))
    have HN2 := hide (setRow_heap (w2.alloc (.cells (zb 32) 29)) w2.heap.size (zb 32) (brow (keyS z key)) 29 (0, 0) (heap_alloc_new _ _))
    have HK2 := hide ((unhide HK1).trans kN (by simp))
    have HG2 := hide (kN.heap (unhide HG1) (by simp))
    have HZ2 := hide (kN.heap (unhide HZ1) (by simp))
    clear kN k2 HK1 HG1 HZ1
    go_wp2_with (first
      | (rw [zb32]; refine wpList_store_row rfl 29 _ _ rfl w2.heap.size (brow (keyS z key)) rfl rfl _ (zb 32) (heap_alloc_new _ _) (unhide HSZ) (by rw [zb_size, brow_size, hd]) (brow_one _) ?_)
      | (refine wpList_load_row rfl 29 _ rfl w2.heap.size rfl _ (brow (keyS z key)) (0, 0) _ (unhide HN2) Tryd.underlying29 rfl (unhide HSZ) ?_)
      | (refine wpList_load_row rfl 26 _ rfl w.heap.size rfl _ #[.slice sa sn sc, .slice pa pn pc] (0, 0) _ (unhide HG2) Tryd.underlying26 rfl (by kernel_rfl) ?_))
    obtain ⟨X, hX⟩ : ∃ X, (w2.alloc (.cells (zb 32) 29)).setRow w2.heap.size (brow (keyS z key)) = X := ⟨_, rfl⟩
    rw [hX] at HN2 HK2 HG2 HZ2 ⊢
    clear hX
    have HKL2 := hide (fun s (h : s ∈ ss) => Nat.le_trans (unhide HKL s h) (by omega) : ∀ s ∈ ss, s.2.length ≤ 1000000000000)
    refine Calls.mono (proves_any z (keyS z key) _ _ ss ps _ hw (unhide HDG) ((unhide HS).old (unhide HK2)) ((unhide HP).old (unhide HK2)) ((unhide HT).k (unhide HK2)) hsl hpl (unhide HKL2)) ?_
    rintro e w3 ⟨rfl, k3⟩
    have HK3 := hide ((unhide HK2).trans k3 (by simp))
    have HN3 := hide (k3.heap (unhide HN2) (by simp))
    have HG3 := hide (k3.heap (unhide HG2) (by simp))
    have HZ3 := hide (k3.heap (unhide HZ2) (by simp))
    clear k3 HK2 HN2 HG2 HZ2 HKL2
    cases hpv : provB z (keyS z key) ss ps with
    | false =>
      have HE2 := hide (by rw [unhide HE, hpv]; rfl : rtE z key ss ps = 10)
      have HD := hide (by unfold rtD; rw [unhide HE2]; rfl : rtD z key ss ps = List.replicate 32 0)
      have HV := hide (by unfold rtV; rw [unhide HE2]; rfl : rtV z key ss ps = none)
      clear hpv HE
      go_wp2_with (rw [zb32]; refine wpList_store_row rfl 29 _ _ rfl (w.heap.size + 1) (zb 32) rfl rfl _ (zb 32) (unhide HZ3) (by rw [zb_size]; exact Tryd.size_dig) rfl (brow_one _) ?_)
      have HKF := hide ((unhide HK3).setRow (g := w.heap.size + 1) (Or.inr (by omega)) (zb 32))
      have HZF := hide (setRow_heap w3 (w.heap.size + 1) (zb 32) (zb 32) 29 (0, 0) (unhide HZ3))
      rw [unhide HD, unhide HV, unhide HE2]
      refine bodyPost_ret (v := .tuple #[.agg (zb 32), .slice none 0 0, .bool false, .int .i64 10]) ?_ rfl ⟨⟨_, rfl, Rd.nil _⟩, unhide HKF⟩
      exact results_cell_tmp3 rfl _ _ (w.heap.size + 1) _ (zb 32) (0, 0) _ rfl (unhide HZF) Tryd.underlying29 rfl (by rw [zb_size]; exact Tryd.size_dig) _ _ _ rfl rfl rfl
    | true =>
      have HE2 := hide (by rw [unhide HE, hpv]; rfl : rtE z key ss ps = 0)
      have HD := hide (by unfold rtD; rw [unhide HE2]; rfl : rtD z key ss ps = cliD z (keyS z key) ss (footN ss ps) (footD z ss ps))
      have HV := hide (by unfold rtV; rw [unhide HE2]; rfl : rtV z key ss ps = valH key ps)
      have HFIT := hide (prov_fit hpv)
      clear hpv HE
      have c1 : w3.cell? ⟨w.heap.size, 1, none⟩ = some (.slice pa pn pc) := cell_of_row w3 w.heap.size 1 _ _ _ (unhide HG3)
      go_wp2_with fail
      refine Calls.mono (valueOf_any _ _ key ps _ ((unhide HKY).old (unhide HK3) (by simp)) ((unhide HP).old (unhide HK3))) ?_
      rintro e w4 ⟨⟨v4, rfl, hv4, hb4⟩, k4⟩
      have HB4 := hide (fun x hx => by have h9 := hb4 x hx; have h8 := lt_of_block (unhide HZ3); omega : ∀ x ∈ blk v4, x ≠ w.heap.size + 1)
      clear hb4
      have HK4 := hide ((unhide HK3).trans k4 (by simp))
      have HN4 := hide (k4.heap (unhide HN3) (by simp))
      have HG4 := hide (k4.heap (unhide HG3) (by simp))
      have HZ4 := hide (k4.heap (unhide HZ3) (by simp))
      have HV4 := hide hv4
      clear k4 hv4 c1 HK3 HN3 HG3 HZ3
      obtain ⟨av, nv, cv, rfl, _⟩ := id (unhide HV4)
      go_wp2_with (first
        | (refine wpList_load_row rfl 29 _ rfl w2.heap.size rfl _ (brow (keyS z key)) (0, 0) _ (unhide HN4) Tryd.underlying29 rfl (unhide HSZ) ?_)
        | (refine wpList_load_row rfl 26 _ rfl w.heap.size rfl _ #[.slice sa sn sc, .slice pa pn pc] (0, 0) _ (unhide HG4) Tryd.underlying26 rfl (by kernel_rfl) ?_))
      refine Calls.mono (climb_any z (keyS z key) _ _ ss ps _ hw (unhide HDG) ((unhide HS).old (unhide HK4)) ((unhide HP).old (unhide HK4)) ((unhide HT).k (unhide HK4)) hpb (unhide HKL) (unhide HFIT)) ?_
      rintro e w5 ⟨rfl, k5⟩
      have HDG2 := hide (cliD_dg z (keyS z key) ss (footN ss ps) _ (footD_dg z ss ps))
      generalize cliD z (keyS z key) ss (footN ss ps) (footD z ss ps) = D at HD HDG2 ⊢
      have hd2 := (unhide HDG2).1
      have HSZ2 := hide (Tryd.szD hd2)
      have HZ5 := hide (k5.heap (unhide HZ4) (by simp))
      have HV5 := hide ((unhide HV4).old k5 (by simp))
      have HKF := hide (((unhide HK4).trans k5 (by simp)).setRow (g := w.heap.size + 1) (Or.inr (by omega)) (brow D))
      have HVF := hide ((unhide HV5).kept ((Kept.refl [w.heap.size + 1] w5).setRow (g := w.heap.size + 1) (Or.inl (by simp)) (brow D)) (fun x hx => by simp; exact unhide HB4 x hx))
      have HZF := hide (setRow_heap w5 (w.heap.size + 1) (zb 32) (brow D) 29 (0, 0) (unhide HZ5))
      clear k5 HZ4 HN4 HG4 HK4
      go_wp2_with (refine wpList_store_row rfl 29 _ _ rfl (w.heap.size + 1) (brow D) rfl rfl _ (zb 32) (unhide HZ5) (unhide HSZ2) (by rw [zb_size, brow_size, hd2]) (brow_one _) ?_)
      rw [unhide HD, unhide HV, unhide HE2]
      refine bodyPost_ret (v := .tuple #[.agg (brow D), .slice av nv cv, .bool (valH key ps).isSome, .int .i64 0]) ?_ rfl ⟨⟨_, rfl, unhide HVF⟩, unhide HKF⟩
      exact results_cell_tmp3 rfl _ _ (w.heap.size + 1) _ (brow D) (0, 0) _ rfl (unhide HZF) Tryd.underlying29 rfl (unhide HSZ2) _ _ _ rfl rfl rfl
  · have HE := hide (by unfold rtE; rw [if_neg hf] : rtE z key ss ps = hfE z key [] ss)
    have HD := hide (by unfold rtD; rw [unhide HE, if_neg hf] : rtD z key ss ps = List.replicate 32 0)
    have HV := hide (by unfold rtV; rw [unhide HE, if_neg hf] : rtV z key ss ps = none)
    have hf' : ¬ (hfE z key [] ss : Int) = 0 := by omega
    generalize hfE z key [] ss = F at HE hf' ⊢
    clear hf
    go_wp2_with (first
      | (rw [zb32]; refine wpList_store_row rfl 29 _ _ rfl (w.heap.size + 1) (zb 32) rfl rfl _ (zb 32) (unhide HZ1) (by rw [zb_size]; exact Tryd.size_dig) rfl (brow_one _) ?_))
    have HKF := hide ((unhide HK1).setRow (g := w.heap.size + 1) (Or.inr (by omega)) (zb 32))
    have HZF := hide (setRow_heap w1 (w.heap.size + 1) (zb 32) (zb 32) 29 (0, 0) (unhide HZ1))
    rw [unhide HD, unhide HV, unhide HE]
    refine bodyPost_ret (v := .tuple #[.agg (zb 32), .slice none 0 0, .bool false, .int .i64 (F : Int)]) ?_ rfl ⟨⟨_, rfl, Rd.nil _⟩, unhide HKF⟩
    exact results_cell_tmp3 rfl _ _ (w.heap.size + 1) _ (zb 32) (0, 0) _ rfl (unhide HZF) Tryd.underlying29 rfl (by rw [zb_size]; exact Tryd.size_dig) _ _ _ rfl rfl rfl
end Go.Proofs.YtjafmnemobcipaaDoor
namespace Go.Proofs.YtjafmnemobcipaaDoor
open Go.RowKit Go.BigFrame
set_option linter.unusedVariables false
set_option linter.unusedSimpArgs false

def ckE (z : Int) (root key : List Nat) (ss : List (Nat × List (List Nat))) (ps : List (List Nat × List Nat)) : Nat :=
  if hfE z key [root] ss = 0 then (if rtE z key ss ps = 0 then (if rtD z key ss ps = root then 0 else 10) else rtE z key ss ps) else hfE z key [root] ss
def ckV (z : Int) (root key : List Nat) (ss : List (Nat × List (List Nat))) (ps : List (List Nat × List Nat)) : Option (List Nat) := if ckE z root key ss ps = 0 then rtV z key ss ps else none
theorem rtD_dg (z : Int) (key : List Nat) (ss : List (Nat × List (List Nat))) (ps : List (List Nat × List Nat)) : Dg (rtD z key ss ps) := by
  unfold rtD
  split
  · exact cliD_dg _ _ _ _ _ (footD_dg _ _ _)
  · exact ⟨by simp, fun x hx => by simp at hx; omega⟩

set_option maxRecDepth 100000 in
set_option maxHeartbeats 4000000 in
theorem hcheck_any (z : Int) (root : List Nat) (kv : Value) (key : List Nat) (sv pv : Value) (ss : List (Nat × List (List Nat))) (ps : List (List Nat × List Nat)) (w : World) (hz : -9223372036854775808 ≤ z ∧ z ≤ 9223372036854775807) (hr : Dg root) (hk : Rd w kv key) (hs : RdS w sv ss) (hp : RdK w pv ps) (hT : Tabs w) (hpb : (pairB ps).length ≤ 1000000000000)
    (hsl : ss.length ≤ 1000000000000) (hpl : ps.length ≤ 1000000000000) (hkl : ∀ s ∈ ss, s.2.length ≤ 1000000000) :
    Calls Tryd.prog 12 #[.int .i64 z, .agg (brow root), kv, .agg #[sv, pv]] w fun e w' => (∃ v', e = .returned (.tuple #[v', .bool (ckV z root key ss ps).isSome, .int .i64 (ckE z root key ss ps : Int)]) ∧ Rd w' v' ((ckV z root key ss ps).getD [])) ∧ Kept [] w w' := by
  obtain ⟨sa, sn, sc, vs0, rfl, _⟩ := id hs
  obtain ⟨pa, pn, pc, _, _, rfl, _⟩ := id hp
  obtain ⟨ka, kn, kc, rfl, hkn, _⟩ := id hk
  have HP := hide hp
  have HS := hide hs
  have HT := hide hT
  have HKY := hide hk
  have HKL := hide hkl
  have HR := hide hr
  have hrl := hr.1
  have HSR := hide (Tryd.szD hrl)
  clear hp hs hT hkl hk hr
  have HK0 := hide (((Kept.refl [] w).alloc (.cells (brow root) 29)).alloc (.cells #[.slice sa sn sc, .slice pa pn pc] 26))
  have HR0 := hide (heap_alloc2_old w (.cells (brow root) 29) (.cells #[.slice sa sn sc, .slice pa pn pc] 26))
  have HG0 := hide (heap_alloc2_new w (.cells (brow root) 29) (.cells #[.slice sa sn sc, .slice pa pn pc] 26))
  obtain ⟨W, hW⟩ : ∃ W, (w.alloc (.cells (brow root) 29)).alloc (.cells #[.slice sa sn sc, .slice pa pn pc] 26) = W := ⟨_, rfl⟩
  rw [hW] at HK0 HG0 HR0
  have c0 : W.cell? ⟨w.heap.size + 1, 0, none⟩ = some (.slice sa sn sc) := cell_of_row W (w.heap.size + 1) 0 _ _ _ (unhide HG0)
  go_enter Tryd.func12, Tryd.ntmps12
  have hfs : ∀ A : Array Value, (List.foldl (fun cs x => cs.setIfInBounds x.snd x.fst) A (List.map u8 root).zipIdx).size = A.size := fun A => fold_size _ A 0
  go_wp2_with (refine wpList_load_mid rfl 29 _ rfl w.heap.size 0 rfl (root.map u8) _ (range_row (unhide HR0)) Tryd.underlying29 rfl (by rw [List.length_map, hrl]; exact Tryd.size_dig) ?_)
  rw [zb32, one_dig root hrl]
  clear hW hfs
  have kA := (Kept.refl [] W).alloc (.cells (brow root) 29)
  have HRD := hide (RdD.one (heap_alloc_new W (.cells (brow root) 29)) (unhide HR))
  have HKA := hide ((unhide HK0).trans kA (by simp))
  have HRA := hide (kA.heap (unhide HR0) (by simp))
  have HGA := hide (kA.heap (unhide HG0) (by simp))
  refine Calls.mono (hformed_any z _ key _ ss _ [root] _ hz ((unhide HKY).old (unhide HKA) (by simp)) ((unhide HS).old (unhide HKA)) (unhide HRD)) ?_
  rintro e w1 ⟨rfl, k1⟩
  have HK1 := hide ((unhide HKA).trans k1 (by simp))
  have HR1 := hide (k1.heap (unhide HRA) (by simp))
  have HG1 := hide (k1.heap (unhide HGA) (by simp))
  clear k1 kA c0 HK0 HR0 HG0 HRD HKA HRA HGA
  by_cases hf : hfE z key [root] ss = 0
  · have HE := hide (by unfold ckE; rw [if_pos hf] : ckE z root key ss ps = if rtE z key ss ps = 0 then (if rtD z key ss ps = root then 0 else 10) else rtE z key ss ps)
    rw [hf]
    clear hf
    go_wp2_with (refine wpList_load_row rfl 26 _ rfl (w.heap.size + 1) rfl _ #[.slice sa sn sc, .slice pa pn pc] (0, 0) _ (unhide HG1) Tryd.underlying26 rfl (by kernel_rfl) ?_)
    refine Calls.mono (hrootOf_any z _ key _ _ ss ps _ hz ((unhide HKY).old (unhide HK1) (by simp)) ((unhide HS).old (unhide HK1)) ((unhide HP).old (unhide HK1)) ((unhide HT).k (unhide HK1)) hpb hsl hpl (unhide HKL)) ?_
    rintro e w2 ⟨⟨v2, rfl, hv2⟩, k2⟩
    have HDG := hide (rtD_dg z key ss ps)
    have HV2 := hide hv2
    obtain ⟨av, nv, cv, rfl, _⟩ := id hv2
    clear hv2
    have HCV := hide (by unfold ckV; rfl : ckV z root key ss ps = if ckE z root key ss ps = 0 then rtV z key ss ps else none)
    generalize rtD z key ss ps = D at HDG HE ⊢
    generalize rtE z key ss ps = E at HE ⊢
    generalize rtV z key ss ps = V at HV2 HCV ⊢
    have hd := (unhide HDG).1
    have HSZ := hide (Tryd.szD hd)
    have kN := (k2.alloc (.cells (zb 32) 29)).setRow (g := w2.heap.size) (Or.inr k2.size) (brow D)
    have HN2 := hide (setRow_heap (w2.alloc (.cells (zb 32) 29)) w2.heap.size (zb 32) (brow D) 29 (0, 0) (heap_alloc_new _ _))
    have HK2 := hide ((unhide HK1).trans kN (by simp))
    have HR2 := hide (kN.heap (unhide HR1) (by simp))
    have HVN := hide ((unhide HV2).old (((Kept.refl [] w2).alloc (.cells (zb 32) 29)).setRow (g := w2.heap.size) (Or.inr (Nat.le_refl _)) (brow D)) (by simp))
    clear kN k2 HK1 HR1 HG1 HV2
    by_cases hE : E = 0
    · have heq := fun W => dig_eq W D root hd hrl
      by_cases hDr : D = root
      · have HE2 := hide (by rw [unhide HE, if_pos hE, if_pos hDr] : ckE z root key ss ps = 0)
        rw [decide_eq_true hDr] at heq
        subst hE
        clear hDr
        go_wp2_with (first
          | (rw [zb32]; refine wpList_store_row rfl 29 _ _ rfl w2.heap.size (brow D) rfl rfl _ (zb 32) (heap_alloc_new _ _) (unhide HSZ) (by rw [zb_size, brow_size, hd]) (brow_one _) ?_)
          | (refine wpList_load_row rfl 29 _ rfl w2.heap.size rfl _ (brow D) (0, 0) _ (unhide HN2) Tryd.underlying29 rfl (unhide HSZ) ?_)
          | (refine wpList_load_row rfl 29 _ rfl w.heap.size rfl _ (brow root) (0, 0) _ (unhide HR2) Tryd.underlying29 rfl (unhide HSR) ?_))
        go_ret3
        rw [unhide HCV, unhide HE2]
        exact ⟨⟨_, rfl, unhide HVN⟩, unhide HK2⟩
      · have HE2 := hide (by rw [unhide HE, if_pos hE, if_neg hDr] : ckE z root key ss ps = 10)
        rw [decide_eq_false hDr] at heq
        subst hE
        clear hDr
        go_wp2_with (first
          | (rw [zb32]; refine wpList_store_row rfl 29 _ _ rfl w2.heap.size (brow D) rfl rfl _ (zb 32) (heap_alloc_new _ _) (unhide HSZ) (by rw [zb_size, brow_size, hd]) (brow_one _) ?_)
          | (refine wpList_load_row rfl 29 _ rfl w2.heap.size rfl _ (brow D) (0, 0) _ (unhide HN2) Tryd.underlying29 rfl (unhide HSZ) ?_)
          | (refine wpList_load_row rfl 29 _ rfl w.heap.size rfl _ (brow root) (0, 0) _ (unhide HR2) Tryd.underlying29 rfl (unhide HSR) ?_))
        go_ret3
        rw [unhide HCV, unhide HE2]
        exact ⟨⟨_, rfl, Rd.nil _⟩, unhide HK2⟩
    · have HE2 := hide (by rw [unhide HE, if_neg hE] : ckE z root key ss ps = E)
      have hE' : ¬ (E : Int) = 0 := by omega
      have HEE := hide hE
      clear hE
      go_wp2_with (rw [zb32]; refine wpList_store_row rfl 29 _ _ rfl w2.heap.size (brow D) rfl rfl _ (zb 32) (heap_alloc_new _ _) (unhide HSZ) (by rw [zb_size, brow_size, hd]) (brow_one _) ?_)
      go_ret3
      rw [unhide HCV, unhide HE2, if_neg (unhide HEE)]
      exact ⟨⟨_, rfl, Rd.nil _⟩, unhide HK2⟩
  · have HE := hide (by unfold ckE; rw [if_neg hf] : ckE z root key ss ps = hfE z key [root] ss)
    have HV := hide (by unfold ckV; rw [unhide HE, if_neg hf] : ckV z root key ss ps = none)
    have hf' : ¬ (hfE z key [root] ss : Int) = 0 := by omega
    generalize hfE z key [root] ss = F at HE hf' ⊢
    clear hf
    go_wp2
    go_ret3
    rw [unhide HV, unhide HE]
    exact ⟨⟨_, rfl, Rd.nil _⟩, unhide HK1⟩
end Go.Proofs.YtjafmnemobcipaaDoor
namespace Go.Proofs.YtjafmnemobcipaaDoor
open Go.RowKit Go.BigFrame
set_option linter.unusedVariables false
set_option linter.unusedSimpArgs false

theorem cutL_idem {k : Nat} {d : List Nat} (hk : k ≤ 32) (hd : d.length = 32) : cutL k (cutL k d) = cutL k d := by
  unfold cutL
  rw [List.take_append_of_le_length (by simp; omega), List.take_take, Nat.min_self]
theorem sumD_form {z : Int} (hw : widthB z = true) (p : List Nat) : formB z (sumD z p) = true := by
  unfold formB sumD
  have h := width_le hw
  rw [hw]
  simp only [if_true, Bool.true_and]
  rw [cutL_idem (by omega) (hash_len _)]
  simp
theorem zero_form {z : Int} (hw : widthB z = true) : formB z (List.replicate 32 0) = true := by
  unfold formB cutL
  have h := width_le hw
  rw [hw]
  simp only [Bool.true_and, decide_eq_true_eq, List.take_replicate]
  rw [List.replicate_append_replicate, show min z.toNat 32 + (32 - z.toNat) = 32 by omega]
theorem sunD_form {z : Int} (hw : widthB z = true) (e : Nat) (p : List Nat) : formB z (sunD e z p) = true := by
  unfold sunD
  split
  · exact sumD_form hw p
  · exact zero_form hw
theorem footD_form {z : Int} (hw : widthB z = true) (ss : List (Nat × List (List Nat))) (ps : List (List Nat × List Nat)) : formB z (footD z ss ps) = true := by
  unfold footD brD
  split
  · exact sumD_form hw _
  · split
    · exact sumD_form hw _
    · exact sunD_form hw _ _
theorem cliD_form {z : Int} (hw : widthB z = true) (ks : List Nat) (ss : List (Nat × List (List Nat))) : ∀ (k : Nat) (d : List Nat), formB z d = true → formB z (cliD z ks ss k d) = true
  | 0, d, h => h
  | k + 1, d, h => by rw [cliD]; exact cliD_form hw ks ss k _ (sunD_form hw _ _)
theorem rtE_zero {z : Int} {key : List Nat} {ss : List (Nat × List (List Nat))} {ps : List (List Nat × List Nat)} (h : rtE z key ss ps = 0) : hfE z key [] ss = 0 ∧ provB z (keyS z key) ss ps = true := by
  unfold rtE at h
  by_cases hf : hfE z key [] ss = 0
  · rw [if_pos hf] at h
    cases hp : provB z (keyS z key) ss ps with
    | true => exact ⟨hf, rfl⟩
    | false => rw [hp] at h; simp at h
  · rw [if_neg hf] at h; exact absurd h hf
theorem rtE_mk {z : Int} {key : List Nat} {ss : List (Nat × List (List Nat))} {ps : List (List Nat × List Nat)} (hf : hfE z key [] ss = 0) (hp : provB z (keyS z key) ss ps = true) : rtE z key ss ps = 0 := by
  unfold rtE; rw [if_pos hf, hp]; rfl
theorem rtD_form {z : Int} {key : List Nat} {ss : List (Nat × List (List Nat))} {ps : List (List Nat × List Nat)} (h : rtE z key ss ps = 0) : formB z (rtD z key ss ps) = true := by
  have hw := (hfE_zero (rtE_zero h).1).1
  unfold rtD
  rw [if_pos h]
  exact cliD_form hw _ _ _ _ (footD_form hw _ _)
theorem hfE_root {z : Int} {key r : List Nat} {ss : List (Nat × List (List Nat))} (h : hfE z key [] ss = 0) : hfE z key [r] ss = if formB z r then 0 else 3 := by
  obtain ⟨h1, h2⟩ := hfE_zero h
  unfold hfE at h ⊢
  rw [if_neg (by simp [h1]), if_neg (by omega)] at h ⊢
  have h3 : ss.all (fun s => s.2.all (formB z)) = true := by
    by_cases h9 : ss.all (fun s => s.2.all (formB z)) = true
    · exact h9
    · rw [if_neg (by simpa using h9)] at h; omega
  rw [h3]
  simp
theorem agr_bad {z : Int} {key r : List Nat} {ss : List (Nat × List (List Nat))} {ps : List (List Nat × List Nat)} (h : rtE z key ss ps ≠ 0) : ckE z r key ss ps ≠ 0 := by
  unfold ckE
  split
  · first
    | exact h
    | (rw [if_neg h]; exact h)
  · assumption
theorem agr_eq {z : Int} {key r : List Nat} {ss : List (Nat × List (List Nat))} {ps : List (List Nat × List Nat)} (h : rtE z key ss ps = 0) : ckE z r key ss ps = if formB z r then (if rtD z key ss ps = r then 0 else 10) else 3 := by
  unfold ckE
  rw [hfE_root (rtE_zero h).1]
  cases formB z r with
  | true => simp [h]
  | false => simp
theorem agr_ok {z : Int} {key : List Nat} {ss : List (Nat × List (List Nat))} {ps : List (List Nat × List Nat)} (h : rtE z key ss ps = 0) : ckE z (rtD z key ss ps) key ss ps = 0 := by
  rw [agr_eq h, rtD_form h]; simp

theorem comL_le (a b : List Nat) : ∀ (n i m : Nat), m ≤ i + n → ((∀ j, i ≤ j → j < m → dgt a j = dgt b j) → m ≤ comL a b n i ∨ m ≤ i) ∧ (m ≤ comL a b n i → ∀ j, i ≤ j → j < m → dgt a j = dgt b j)
  | 0, i, m, hm => ⟨fun _ => Or.inr (by omega), fun _ j h1 h2 => by omega⟩
  | n + 1, i, m, hm => by
    rw [comL]
    by_cases h : dgt a i = dgt b i
    · rw [if_pos h]
      have ih := comL_le a b n (i + 1) m (by omega)
      refine ⟨fun h9 => ?_, fun h9 j h1 h2 => ?_⟩
      · rcases ih.1 (fun j h1 h2 => h9 j (by omega) h2) with h8 | h8
        · exact Or.inl h8
        · have : i + 1 ≤ comL a b n (i + 1) := by
            clear ih h9 h8 hm
            induction n generalizing i with
            | zero => exact Nat.le_refl _
            | succ n ih2 =>
              rw [comL]
              split
              · rename_i h7
                exact Nat.le_of_succ_le (ih2 (i + 1) h7)
              · exact Nat.le_refl _
          omega
      · rcases Nat.lt_or_ge i j with h8 | h8
        · exact ih.2 h9 j (by omega) h2
        · obtain rfl : i = j := by omega
          exact h
    · rw [if_neg h]
      refine ⟨fun h9 => ?_, fun h9 j h1 h2 => by omega⟩
      rcases Nat.lt_or_ge i m with h8 | h8
      · exact absurd (h9 i (Nat.le_refl _) h8) h
      · exact Or.inr h8
theorem comC_digits {z : Int} {a b : List Nat} (hw : widthB z = true) (ha : formB z a = true) (hb : formB z b = true) {m : Nat} (hm : m ≤ 2 * z.toNat) : m ≤ comC z a b ↔ ∀ j, j < m → dgt a j = dgt b j := by
  have h0 : formedE z [a, b] = 0 := by simp [formedE, hw, ha, hb]
  unfold comC
  rw [if_pos h0]
  have h := comL_le a b (2 * z.toNat) 0 m (by omega)
  refine ⟨fun h9 j hj => h.2 h9 j (Nat.zero_le _) hj, fun h9 => ?_⟩
  rcases h.1 (fun j _ hj => h9 j hj) with h8 | h8 <;> omega
theorem atC_dgt {z : Int} {d : List Nat} (hw : widthB z = true) (hd : formB z d = true) {i : Nat} (hi : i < 2 * z.toNat) : atC z d (i : Int) = dgt d i := by
  have h9 := width_le hw
  have h0 : atE z d (i : Int) = 0 := by
    unfold atE
    rw [if_neg (by simp [hw]; omega), hd]
    rfl
  unfold atC
  rw [if_pos h0, Int.toNat_natCast]
theorem keyS_form {z : Int} (hw : widthB z = true) (key : List Nat) : formB z (keyS z key) = true := sumD_form hw _
theorem fitsB_same {z : Int} {ks kt : List Nat} {ss : List (Nat × List (List Nat))} {m : Nat} : ∀ (n : Nat), (∀ i, i < n → atC z ks (i : Int) = atC z kt (i : Int)) → fitsB z ks ss m n = fitsB z kt ss m n
  | 0, _ => rfl
  | n + 1, h => by rw [fitsB, fitsB, fitsB_same n (fun i hi => h i (by omega)), h n (by omega)]
theorem cliD_same {z : Int} {ks kt : List Nat} {ss : List (Nat × List (List Nat))} : ∀ (n : Nat) (d : List Nat), (∀ i, i < n → atC z ks (i : Int) = atC z kt (i : Int)) → cliD z ks ss n d = cliD z kt ss n d
  | 0, _, _ => rfl
  | n + 1, d, h => by rw [cliD, cliD, h n (by omega), cliD_same n _ (fun i hi => h i (by omega))]
theorem oth {z : Int} {key other : List Nat} {ss : List (Nat × List (List Nat))} {ps : List (List Nat × List Nat)} (h : rtE z key ss ps = 0) (hp : ps.length ≠ 0) (ho : other.length ≤ 64) (hc : ss.length ≤ comC z (keyS z key) (keyS z other)) : rtE z other ss ps = 0 ∧ rtD z other ss ps = rtD z key ss ps := by
  obtain ⟨hf, hv⟩ := rtE_zero h
  obtain ⟨hw, hk⟩ := hfE_zero hf
  have fa := keyS_form hw key
  have fb := keyS_form hw other
  have hv0 := hv
  unfold provB at hv
  simp only [Bool.and_eq_true, decide_eq_true_eq] at hv
  obtain ⟨hl, hfit, hrest⟩ := hv
  have hd := (comC_digits hw fa fb hl).1 hc
  have hat : ∀ i, i < ss.length → atC z (keyS z other) (i : Int) = atC z (keyS z key) (i : Int) := fun i hi => by
    rw [atC_dgt hw fb (by omega), atC_dgt hw fa (by omega), hd i hi]
  have hfo : hfE z other [] ss = 0 := by
    unfold hfE at hf ⊢
    rw [if_neg (by simp [hw]), if_neg (by omega)] at hf ⊢
    exact hf
  have hpo : provB z (keyS z other) ss ps = true := by
    unfold provB
    simp only [Bool.and_eq_true, decide_eq_true_eq]
    refine ⟨hl, by rw [fitsB_same ss.length hat]; exact hfit, ?_⟩
    rw [decide_eq_false hp] at hrest ⊢
    simp only [Bool.false_or, Bool.and_eq_true] at hrest ⊢
    refine ⟨hrest.1, hrest.2.1, ?_⟩
    have h9 := hrest.2.2
    unfold hanB at h9 ⊢
    simp only [Bool.and_eq_true, decide_eq_true_eq] at h9 ⊢
    refine ⟨h9.1, ?_⟩
    have fc := keyS_form hw (ps.getD 0 ([], [])).1
    have h8 := (comC_digits hw fc fa hl).1 h9.2
    exact (comC_digits hw fc fb hl).2 (fun j hj => (h8 j hj).trans (hd j hj))
  have ho2 := rtE_mk hfo hpo
  refine ⟨ho2, ?_⟩
  unfold rtD rooD
  rw [if_pos h, if_pos ho2]
  exact cliD_same _ _ (fun i hi => hat i (by unfold footN at hi; split at hi <;> omega))
end Go.Proofs.YtjafmnemobcipaaDoor
namespace Go.Proofs.YtjafmnemobcipaaDoor
open Go.RowKit Go.BigFrame
set_option linter.unusedVariables false
set_option linter.unusedSimpArgs false

theorem sumD_nat {k : Nat} (hk : 1 ≤ k ∧ k ≤ 32) (p : List Nat) : sumD (k : Int) p = cutL k (hash p) := by
  unfold sumD
  rw [if_pos (by simp [widthB]; omega), Int.toNat_natCast]

set_option maxRecDepth 100000 in
set_option maxHeartbeats 1000000 in
theorem refBucket_any (k : Nat) (v : Value) (ps : List (List Nat × List Nat)) (w : World) (hk : 1 ≤ k ∧ k ≤ 32) (h : RdK w v ps) (hl : (pairB ps).length ≤ 1000000000000) :
    Calls Tryd.prog 13 #[.int .i64 k, v] w fun e w' => e = .returned (.agg (brow (sumD (k : Int) (buckB ps)))) ∧ Kept [] w w' := by
  rw [sumD_nat hk]
  have hcl := cutL_len k (hash (buckB ps)) hk.2 (hash_len _)
  obtain ⟨C, hC⟩ : ∃ C, cutL k (hash (buckB ps)) = C := ⟨_, rfl⟩
  rw [hC] at hcl ⊢
  have HC := hide hC
  clear hC
  have HH := hide h
  clear h
  have HS2 := hide (by rw [brow_size, hcl]; exact Tryd.size_dig : (Tryd.prog.info? 29).map (·.size) = some (brow C).size)
  go_enter Tryd.func13, Tryd.ntmps13
  go_wp2_with fail
  rw [zb32]
  have k0 := (Kept.refl [] w).alloc (.cells (zb 32) 29)
  refine Calls.mono (refBucketInput_any _ ps _ ((unhide HH).old k0) hl) ?_
  rintro e w1 ⟨v1, rfl, r1, k1⟩
  have HR1 := hide r1
  have HK1 := hide (k0.trans k1 (by simp))
  have HZ1 := hide (k1.heap (heap_alloc_new w (.cells (zb 32) 29)) (by simp))
  clear r1 k1 k0
  go_wp2_with fail
  refine Calls.mono (refCut_any k _ _ _ (unhide HR1) hk.2) ?_
  rintro e w2 ⟨rfl, k2⟩
  rw [unhide HC]
  have HZ2 := hide (k2.heap (unhide HZ1) (by simp))
  have HK2 := hide ((unhide HK1).trans k2 (by simp))
  clear k2
  go_wp2_with (refine wpList_store_row rfl 29 _ _ rfl w.heap.size (brow C) rfl rfl _ (zb 32) (unhide HZ2) (unhide HS2) (by rw [zb_size, brow_size, hcl]) (brow_one _) ?_)
  refine bodyPost_ret (v := .agg (brow C)) ?_ rfl ⟨rfl, (unhide HK2).setRow (by simp) _⟩
  exact results_cell_row rfl _ _ w.heap.size _ (brow C) (0, 0) _ rfl (setRow_heap _ _ _ _ _ _ (unhide HZ2)) Tryd.underlying29 rfl (unhide HS2)

end Go.Proofs.YtjafmnemobcipaaDoor
/-
  Laws for drawn regions, by genreg.py. No program.
-/
namespace Go.Proofs.YtjafmnemobcipaaDoor
open Go Go.RowKit Go.BigFrame
set_option linter.unusedVariables false
set_option linter.unusedSimpArgs false
section
variable {P : Program} {Q : Exit → Act → World → Prop}
theorem wp_haw14 {id : Nat} {o0 o1 o2 o3 o4 o5 o6 o7 o8 o9 o10 o11 o12 o13 : Oper} {a : Act} {w : World} (hm : P.follows .mixedOrders = true) (hs : Region.noSelect #[o0, o1, o2, o3, o4, o5, o6, o7, o8, o9, o10, o11, o12, o13] = true)
    (f0 : Region.free .any #[o0, o1, o2, o3, o4, o5, o6, o7, o8, o9, o10, o11, o12, o13] #[false, false, false, false, false, false, false, false, false, false, false, false, false, false] 0 = true) (r0 : (Region.ready .any #[o0, o1, o2, o3, o4, o5, o6, o7, o8, o9, o10, o11, o12, o13] #[false, false, false, false, false, false, false, false, false, false, false, false, false, false]).contains 0 = true)
    (f1 : Region.free .any #[o0, o1, o2, o3, o4, o5, o6, o7, o8, o9, o10, o11, o12, o13] #[true, false, false, false, false, false, false, false, false, false, false, false, false, false] 1 = true) (r1 : (Region.ready .any #[o0, o1, o2, o3, o4, o5, o6, o7, o8, o9, o10, o11, o12, o13] #[true, false, false, false, false, false, false, false, false, false, false, false, false, false]).contains 1 = true)
    (f5 : Region.free .any #[o0, o1, o2, o3, o4, o5, o6, o7, o8, o9, o10, o11, o12, o13] #[true, true, false, false, false, false, false, false, false, false, false, false, false, false] 5 = true) (r5 : (Region.ready .any #[o0, o1, o2, o3, o4, o5, o6, o7, o8, o9, o10, o11, o12, o13] #[true, true, false, false, false, false, false, false, false, false, false, false, false, false]).contains 5 = true)
    (q_ : Region.ready .any #[o0, o1, o2, o3, o4, o5, o6, o7, o8, o9, o10, o11, o12, o13] #[true, true, false, false, false, true, false, false, false, false, false, false, false, false] = [2, 3])
    (q2_ : Region.ready .any #[o0, o1, o2, o3, o4, o5, o6, o7, o8, o9, o10, o11, o12, o13] #[true, true, true, false, false, true, false, false, false, false, false, false, false, false] = [3])
    (q3_ : Region.ready .any #[o0, o1, o2, o3, o4, o5, o6, o7, o8, o9, o10, o11, o12, o13] #[true, true, false, true, false, true, false, false, false, false, false, false, false, false] = [2, 4])
    (q2_3_ : Region.ready .any #[o0, o1, o2, o3, o4, o5, o6, o7, o8, o9, o10, o11, o12, o13] #[true, true, true, true, false, true, false, false, false, false, false, false, false, false] = [4])
    (q3_4_ : Region.ready .any #[o0, o1, o2, o3, o4, o5, o6, o7, o8, o9, o10, o11, o12, o13] #[true, true, false, true, true, true, false, false, false, false, false, false, false, false] = [2])
    (q2_3_4_ : Region.ready .any #[o0, o1, o2, o3, o4, o5, o6, o7, o8, o9, o10, o11, o12, o13] #[true, true, true, true, true, true, false, false, false, false, false, false, false, false] = [6])
    (f2_3_4_6_7 : Region.free .any #[o0, o1, o2, o3, o4, o5, o6, o7, o8, o9, o10, o11, o12, o13] #[true, true, true, true, true, true, true, false, false, false, false, false, false, false] 7 = true) (r2_3_4_6_7 : (Region.ready .any #[o0, o1, o2, o3, o4, o5, o6, o7, o8, o9, o10, o11, o12, o13] #[true, true, true, true, true, true, true, false, false, false, false, false, false, false]).contains 7 = true)
    (f2_3_4_6_8 : Region.free .any #[o0, o1, o2, o3, o4, o5, o6, o7, o8, o9, o10, o11, o12, o13] #[true, true, true, true, true, true, true, true, false, false, false, false, false, false] 8 = true) (r2_3_4_6_8 : (Region.ready .any #[o0, o1, o2, o3, o4, o5, o6, o7, o8, o9, o10, o11, o12, o13] #[true, true, true, true, true, true, true, true, false, false, false, false, false, false]).contains 8 = true)
    (f2_3_4_6_9 : Region.free .any #[o0, o1, o2, o3, o4, o5, o6, o7, o8, o9, o10, o11, o12, o13] #[true, true, true, true, true, true, true, true, true, false, false, false, false, false] 9 = true) (r2_3_4_6_9 : (Region.ready .any #[o0, o1, o2, o3, o4, o5, o6, o7, o8, o9, o10, o11, o12, o13] #[true, true, true, true, true, true, true, true, true, false, false, false, false, false]).contains 9 = true)
    (f2_3_4_6_10 : Region.free .any #[o0, o1, o2, o3, o4, o5, o6, o7, o8, o9, o10, o11, o12, o13] #[true, true, true, true, true, true, true, true, true, true, false, false, false, false] 10 = true) (r2_3_4_6_10 : (Region.ready .any #[o0, o1, o2, o3, o4, o5, o6, o7, o8, o9, o10, o11, o12, o13] #[true, true, true, true, true, true, true, true, true, true, false, false, false, false]).contains 10 = true)
    (f2_3_4_6_11 : Region.free .any #[o0, o1, o2, o3, o4, o5, o6, o7, o8, o9, o10, o11, o12, o13] #[true, true, true, true, true, true, true, true, true, true, true, false, false, false] 11 = true) (r2_3_4_6_11 : (Region.ready .any #[o0, o1, o2, o3, o4, o5, o6, o7, o8, o9, o10, o11, o12, o13] #[true, true, true, true, true, true, true, true, true, true, true, false, false, false]).contains 11 = true)
    (f2_3_4_6_12 : Region.free .any #[o0, o1, o2, o3, o4, o5, o6, o7, o8, o9, o10, o11, o12, o13] #[true, true, true, true, true, true, true, true, true, true, true, true, false, false] 12 = true) (r2_3_4_6_12 : (Region.ready .any #[o0, o1, o2, o3, o4, o5, o6, o7, o8, o9, o10, o11, o12, o13] #[true, true, true, true, true, true, true, true, true, true, true, true, false, false]).contains 12 = true)
    (f2_3_4_6_13 : Region.free .any #[o0, o1, o2, o3, o4, o5, o6, o7, o8, o9, o10, o11, o12, o13] #[true, true, true, true, true, true, true, true, true, true, true, true, true, false] 13 = true) (r2_3_4_6_13 : (Region.ready .any #[o0, o1, o2, o3, o4, o5, o6, o7, o8, o9, o10, o11, o12, o13] #[true, true, true, true, true, true, true, true, true, true, true, true, true, false]).contains 13 = true)
    (q2_3_4_6_ : Region.ready .any #[o0, o1, o2, o3, o4, o5, o6, o7, o8, o9, o10, o11, o12, o13] #[true, true, true, true, true, true, true, true, true, true, true, true, true, true] = [])
    (g2 : o2.guard = none)    (g3 : o3.guard = none)    (g4 : o4.guard = none)    (g6 : o6.guard = none)
    (ne3_2 : ∀ d, o3.dst = some d → o2.dst ≠ some d)
    (ne4_2 : ∀ d, o4.dst = some d → o2.dst ≠ some d)
    (v0 v1 v5 : Value) (A0 A1 A2 : Act)
    (S : World → Prop)
    (I_ : World → Prop)
    (I2_ : Value → World → Prop)
    (I3_ : Value → World → Prop)
    (I2_3_ : Value → Value → World → Prop)
    (I3_4_ : Value → Value → World → Prop)
    (I2_3_4_ : Value → Value → Value → World → Prop)
    (I2_3_4_6_ : Value → Value → Value → Value → World → Prop)
    (v7 : Value → Value)
    (v8 : Value → Value)
    (v9 : Value → Value)
    (v10 : Value → Value)
    (v11 : Value → Value)
    (v12 : Value → Value)
    (v13 : Value → Value)
    (p0 : a.put o0.dst v0 = A0) (hy0 : YieldsIf P #[o0, o1, o2, o3, o4, o5, o6, o7, o8, o9, o10, o11, o12, o13] S o0 v0 a)
    (p1 : A0.put o1.dst v1 = A1) (hy1 : YieldsIf P #[o0, o1, o2, o3, o4, o5, o6, o7, o8, o9, o10, o11, o12, o13] S o1 v1 A0)
    (p5 : A1.put o5.dst v5 = A2) (hy5 : YieldsIf P #[o0, o1, o2, o3, o4, o5, o6, o7, o8, o9, o10, o11, o12, o13] S o5 v5 A1)
    (i0 : I_ w.drew)
    (hIS : (∀ w', I_  w' → S w') ∧ (∀ (u2 : Value) w', I2_ u2 w' → S w') ∧ (∀ (u3 : Value) w', I3_ u3 w' → S w') ∧ (∀ (u2 u3 : Value) w', I2_3_ u2 u3 w' → S w') ∧ (∀ (u3 u4 : Value) w', I3_4_ u3 u4 w' → S w') ∧ (∀ (u2 u3 u4 : Value) w', I2_3_4_ u2 u3 u4 w' → S w') ∧ (∀ (u2 u3 u4 u6 : Value) w', I2_3_4_6_ u2 u3 u4 u6 w' → S w'))
    (s_2 : ∀ w', I_  w' → ∀ K : Act → World → Prop, (∀ (u2 : Value) w2, I2_ u2 w2 → K (A2.put o2.dst u2) w2) → o2.wp P A2 w' K (NoPanic Q))
    (s_3 : ∀ w', I_  w' → ∀ K : Act → World → Prop, (∀ (u3 : Value) w2, I3_ u3 w2 → K (A2.put o3.dst u3) w2) → o3.wp P A2 w' K (NoPanic Q))
    (s2_3 : ∀ (u2 : Value) w', I2_ u2 w' → ∀ K : Act → World → Prop, (∀ (u3 : Value) w2, I2_3_ u2 u3 w2 → K ((A2.put o2.dst u2).put o3.dst u3) w2) → o3.wp P (A2.put o2.dst u2) w' K (NoPanic Q))
    (s3_2 : ∀ (u3 : Value) w', I3_ u3 w' → ∀ K : Act → World → Prop, (∀ (u2 : Value) w2, I2_3_ u2 u3 w2 → K ((A2.put o3.dst u3).put o2.dst u2) w2) → o2.wp P (A2.put o3.dst u3) w' K (NoPanic Q))
    (s3_4 : ∀ (u3 : Value) w', I3_ u3 w' → ∀ K : Act → World → Prop, (∀ (u4 : Value) w2, I3_4_ u3 u4 w2 → K ((A2.put o3.dst u3).put o4.dst u4) w2) → o4.wp P (A2.put o3.dst u3) w' K (NoPanic Q))
    (s2_3_4 : ∀ (u2 u3 : Value) w', I2_3_ u2 u3 w' → ∀ K : Act → World → Prop, (∀ (u4 : Value) w2, I2_3_4_ u2 u3 u4 w2 → K (((A2.put o2.dst u2).put o3.dst u3).put o4.dst u4) w2) → o4.wp P ((A2.put o2.dst u2).put o3.dst u3) w' K (NoPanic Q))
    (s3_4_2 : ∀ (u3 u4 : Value) w', I3_4_ u3 u4 w' → ∀ K : Act → World → Prop, (∀ (u2 : Value) w2, I2_3_4_ u2 u3 u4 w2 → K (((A2.put o3.dst u3).put o4.dst u4).put o2.dst u2) w2) → o2.wp P ((A2.put o3.dst u3).put o4.dst u4) w' K (NoPanic Q))
    (s2_3_4_6 : ∀ (u2 u3 u4 : Value) w', I2_3_4_ u2 u3 u4 w' → ∀ K : Act → World → Prop, (∀ (u6 : Value) w2, I2_3_4_6_ u2 u3 u4 u6 w2 → K ((((A2.put o2.dst u2).put o3.dst u3).put o4.dst u4).put o6.dst u6) w2) → o6.wp P (((A2.put o2.dst u2).put o3.dst u3).put o4.dst u4) w' K (NoPanic Q))
    (y2_3_4_6_7 : ∀ (u2 u3 u4 u6 : Value) w', I2_3_4_6_ u2 u3 u4 u6 w' → YieldsIf P #[o0, o1, o2, o3, o4, o5, o6, o7, o8, o9, o10, o11, o12, o13] S o7 (v7 u6) ((((A2.put o2.dst u2).put o3.dst u3).put o4.dst u4).put o6.dst u6))
    (y2_3_4_6_8 : ∀ (u2 u3 u4 u6 : Value) w', I2_3_4_6_ u2 u3 u4 u6 w' → YieldsIf P #[o0, o1, o2, o3, o4, o5, o6, o7, o8, o9, o10, o11, o12, o13] S o8 (v8 u6) (((((A2.put o2.dst u2).put o3.dst u3).put o4.dst u4).put o6.dst u6).put o7.dst (v7 u6)))
    (y2_3_4_6_9 : ∀ (u2 u3 u4 u6 : Value) w', I2_3_4_6_ u2 u3 u4 u6 w' → YieldsIf P #[o0, o1, o2, o3, o4, o5, o6, o7, o8, o9, o10, o11, o12, o13] S o9 (v9 u6) ((((((A2.put o2.dst u2).put o3.dst u3).put o4.dst u4).put o6.dst u6).put o7.dst (v7 u6)).put o8.dst (v8 u6)))
    (y2_3_4_6_10 : ∀ (u2 u3 u4 u6 : Value) w', I2_3_4_6_ u2 u3 u4 u6 w' → YieldsIf P #[o0, o1, o2, o3, o4, o5, o6, o7, o8, o9, o10, o11, o12, o13] S o10 (v10 u6) (((((((A2.put o2.dst u2).put o3.dst u3).put o4.dst u4).put o6.dst u6).put o7.dst (v7 u6)).put o8.dst (v8 u6)).put o9.dst (v9 u6)))
    (y2_3_4_6_11 : ∀ (u2 u3 u4 u6 : Value) w', I2_3_4_6_ u2 u3 u4 u6 w' → YieldsIf P #[o0, o1, o2, o3, o4, o5, o6, o7, o8, o9, o10, o11, o12, o13] S o11 (v11 u6) ((((((((A2.put o2.dst u2).put o3.dst u3).put o4.dst u4).put o6.dst u6).put o7.dst (v7 u6)).put o8.dst (v8 u6)).put o9.dst (v9 u6)).put o10.dst (v10 u6)))
    (y2_3_4_6_12 : ∀ (u2 u3 u4 u6 : Value) w', I2_3_4_6_ u2 u3 u4 u6 w' → YieldsIf P #[o0, o1, o2, o3, o4, o5, o6, o7, o8, o9, o10, o11, o12, o13] S o12 (v12 u6) (((((((((A2.put o2.dst u2).put o3.dst u3).put o4.dst u4).put o6.dst u6).put o7.dst (v7 u6)).put o8.dst (v8 u6)).put o9.dst (v9 u6)).put o10.dst (v10 u6)).put o11.dst (v11 u6)))
    (y2_3_4_6_13 : ∀ (u2 u3 u4 u6 : Value) w', I2_3_4_6_ u2 u3 u4 u6 w' → YieldsIf P #[o0, o1, o2, o3, o4, o5, o6, o7, o8, o9, o10, o11, o12, o13] S o13 (v13 u6) ((((((((((A2.put o2.dst u2).put o3.dst u3).put o4.dst u4).put o6.dst u6).put o7.dst (v7 u6)).put o8.dst (v8 u6)).put o9.dst (v9 u6)).put o10.dst (v10 u6)).put o11.dst (v11 u6)).put o12.dst (v12 u6)))
    (h : ∀ (u2 u3 u4 u6 : Value) w', I2_3_4_6_ u2 u3 u4 u6 w' → Q .normal (((((((((((A2.put o2.dst u2).put o3.dst u3).put o4.dst u4).put o6.dst u6).put o7.dst (v7 u6)).put o8.dst (v8 u6)).put o9.dst (v9 u6)).put o10.dst (v10 u6)).put o11.dst (v11 u6)).put o12.dst (v12 u6)).put o13.dst (v13 u6)) w') :
    (Code.region id #[o0, o1, o2, o3, o4, o5, o6, o7, o8, o9, o10, o11, o12, o13] true).wp P Q a w := by
  subst p0 p1 p5
  obtain ⟨z_, z2_, z3_, z2_3_, z3_4_, z2_3_4_, z2_3_4_6_⟩ := hIS
  refine wp_region_noPanic ?_
  refine wp_region_held_drew (S := S) hm (z_ _ i0) (fun hH => ?_)
  show wpAnyH P .any #[o0, o1, o2, o3, o4, o5, o6, o7, o8, o9, o10, o11, o12, o13] (NoPanic Q) S 14 #[false, false, false, false, false, false, false, false, false, false, false, false, false, false] a w.drew
  refine wpAnyH_take (i := 0) (oi := o0) rfl hs f0 r0 (fun _ _ _ h => h) hy0 hH ?_
  refine wpAnyH_take (i := 1) (oi := o1) rfl hs f1 r1 (fun _ _ _ h => h) hy1 hH ?_
  refine wpAnyH_take (i := 5) (oi := o5) rfl hs f5 r5 (fun _ _ _ h => h) hy5 hH ?_
  generalize (((a.put o0.dst v0).put o1.dst v1).put o5.dst v5) = B at *
  have wa2 : ∀ y, Region.wanted o2 y = true := fun y => by unfold Region.wanted; rw [g2]
  have wa3 : ∀ y, Region.wanted o3 y = true := fun y => by unfold Region.wanted; rw [g3]
  have wa4 : ∀ y, Region.wanted o4 y = true := fun y => by unfold Region.wanted; rw [g4]
  have wa6 : ∀ y, Region.wanted o6 y = true := fun y => by unfold Region.wanted; rw [g6]
  have t2_3_4_6_ : ∀ (u2 u3 u4 u6 : Value) w', I2_3_4_6_ u2 u3 u4 u6 w' → wpAnyH P .any #[o0, o1, o2, o3, o4, o5, o6, o7, o8, o9, o10, o11, o12, o13] (NoPanic Q) S 0 #[true, true, true, true, true, true, true, true, true, true, true, true, true, true] (((((((((((B.put o2.dst u2).put o3.dst u3).put o4.dst u4).put o6.dst u6).put o7.dst (v7 u6)).put o8.dst (v8 u6)).put o9.dst (v9 u6)).put o10.dst (v10 u6)).put o11.dst (v11 u6)).put o12.dst (v12 u6)).put o13.dst (v13 u6)) w' := by
    intro u2 u3 u4 u6 w0 i0
    exact ⟨q2_3_4_6_, NoPanic.normal (h u2 u3 u4 u6 w0 i0)⟩
  have t2_3_4_ : ∀ (u2 u3 u4 : Value) w', I2_3_4_ u2 u3 u4 w' → wpAnyH P .any #[o0, o1, o2, o3, o4, o5, o6, o7, o8, o9, o10, o11, o12, o13] (NoPanic Q) S 8 #[true, true, true, true, true, true, false, false, false, false, false, false, false, false] (((B.put o2.dst u2).put o3.dst u3).put o4.dst u4) w' := by
    intro u2 u3 u4 w0 i0
    refine wpAnyH_ready (rs := [6]) q2_3_4_ (by simp) (AllReadyH.cons (o := o6) rfl (fun K hK => ?_) AllReadyH.nil)
    · rw [if_pos (wa6 _)]
      refine s2_3_4_6 u2 u3 u4 w0 i0 K (fun u6 w1 i1 => hK.out _ _ (z2_3_4_6_ u2 u3 u4 u6 w1 i1) (fun _ => ?_))
      clear hK
      refine wpAnyH_take (i := 7) (oi := o7) rfl hs f2_3_4_6_7 r2_3_4_6_7 (fun _ _ _ h => h) (y2_3_4_6_7 u2 u3 u4 u6 w1 i1) (z2_3_4_6_ u2 u3 u4 u6 w1 i1) ?_
      refine wpAnyH_take (i := 8) (oi := o8) rfl hs f2_3_4_6_8 r2_3_4_6_8 (fun _ _ _ h => h) (y2_3_4_6_8 u2 u3 u4 u6 w1 i1) (z2_3_4_6_ u2 u3 u4 u6 w1 i1) ?_
      refine wpAnyH_take (i := 9) (oi := o9) rfl hs f2_3_4_6_9 r2_3_4_6_9 (fun _ _ _ h => h) (y2_3_4_6_9 u2 u3 u4 u6 w1 i1) (z2_3_4_6_ u2 u3 u4 u6 w1 i1) ?_
      refine wpAnyH_take (i := 10) (oi := o10) rfl hs f2_3_4_6_10 r2_3_4_6_10 (fun _ _ _ h => h) (y2_3_4_6_10 u2 u3 u4 u6 w1 i1) (z2_3_4_6_ u2 u3 u4 u6 w1 i1) ?_
      refine wpAnyH_take (i := 11) (oi := o11) rfl hs f2_3_4_6_11 r2_3_4_6_11 (fun _ _ _ h => h) (y2_3_4_6_11 u2 u3 u4 u6 w1 i1) (z2_3_4_6_ u2 u3 u4 u6 w1 i1) ?_
      refine wpAnyH_take (i := 12) (oi := o12) rfl hs f2_3_4_6_12 r2_3_4_6_12 (fun _ _ _ h => h) (y2_3_4_6_12 u2 u3 u4 u6 w1 i1) (z2_3_4_6_ u2 u3 u4 u6 w1 i1) ?_
      refine wpAnyH_take (i := 13) (oi := o13) rfl hs f2_3_4_6_13 r2_3_4_6_13 (fun _ _ _ h => h) (y2_3_4_6_13 u2 u3 u4 u6 w1 i1) (z2_3_4_6_ u2 u3 u4 u6 w1 i1) ?_
      exact t2_3_4_6_ u2 u3 u4 u6 w1 i1
  have t3_4_ : ∀ (u3 u4 : Value) w', I3_4_ u3 u4 w' → wpAnyH P .any #[o0, o1, o2, o3, o4, o5, o6, o7, o8, o9, o10, o11, o12, o13] (NoPanic Q) S 9 #[true, true, false, true, true, true, false, false, false, false, false, false, false, false] ((B.put o3.dst u3).put o4.dst u4) w' := by
    intro u3 u4 w0 i0
    refine wpAnyH_ready (rs := [2]) q3_4_ (by simp) (AllReadyH.cons (o := o2) rfl (fun K hK => ?_) AllReadyH.nil)
    · rw [if_pos (wa2 _)]
      refine s3_4_2 u3 u4 w0 i0 K (fun u2 w1 i1 => hK.out _ _ (z2_3_4_ u2 u3 u4 w1 i1) (fun _ => ?_))
      clear hK
      rw [Act.put_comm _ _ _ ne4_2]
      rw [Act.put_comm _ _ _ ne3_2]
      exact t2_3_4_ u2 u3 u4 w1 i1
  have t2_3_ : ∀ (u2 u3 : Value) w', I2_3_ u2 u3 w' → wpAnyH P .any #[o0, o1, o2, o3, o4, o5, o6, o7, o8, o9, o10, o11, o12, o13] (NoPanic Q) S 9 #[true, true, true, true, false, true, false, false, false, false, false, false, false, false] ((B.put o2.dst u2).put o3.dst u3) w' := by
    intro u2 u3 w0 i0
    refine wpAnyH_ready (rs := [4]) q2_3_ (by simp) (AllReadyH.cons (o := o4) rfl (fun K hK => ?_) AllReadyH.nil)
    · rw [if_pos (wa4 _)]
      refine s2_3_4 u2 u3 w0 i0 K (fun u4 w1 i1 => hK.out _ _ (z2_3_4_ u2 u3 u4 w1 i1) (fun _ => ?_))
      clear hK
      exact t2_3_4_ u2 u3 u4 w1 i1
  have t3_ : ∀ (u3 : Value) w', I3_ u3 w' → wpAnyH P .any #[o0, o1, o2, o3, o4, o5, o6, o7, o8, o9, o10, o11, o12, o13] (NoPanic Q) S 10 #[true, true, false, true, false, true, false, false, false, false, false, false, false, false] (B.put o3.dst u3) w' := by
    intro u3 w0 i0
    refine wpAnyH_ready (rs := [2, 4]) q3_ (by simp) (AllReadyH.cons (o := o2) rfl (fun K hK => ?_) (AllReadyH.cons (o := o4) rfl (fun K hK => ?_) AllReadyH.nil))
    · rw [if_pos (wa2 _)]
      refine s3_2 u3 w0 i0 K (fun u2 w1 i1 => hK.out _ _ (z2_3_ u2 u3 w1 i1) (fun _ => ?_))
      clear hK
      rw [Act.put_comm _ _ _ ne3_2]
      exact t2_3_ u2 u3 w1 i1
    · rw [if_pos (wa4 _)]
      refine s3_4 u3 w0 i0 K (fun u4 w1 i1 => hK.out _ _ (z3_4_ u3 u4 w1 i1) (fun _ => ?_))
      clear hK
      exact t3_4_ u3 u4 w1 i1
  have t2_ : ∀ (u2 : Value) w', I2_ u2 w' → wpAnyH P .any #[o0, o1, o2, o3, o4, o5, o6, o7, o8, o9, o10, o11, o12, o13] (NoPanic Q) S 10 #[true, true, true, false, false, true, false, false, false, false, false, false, false, false] (B.put o2.dst u2) w' := by
    intro u2 w0 i0
    refine wpAnyH_ready (rs := [3]) q2_ (by simp) (AllReadyH.cons (o := o3) rfl (fun K hK => ?_) AllReadyH.nil)
    · rw [if_pos (wa3 _)]
      refine s2_3 u2 w0 i0 K (fun u3 w1 i1 => hK.out _ _ (z2_3_ u2 u3 w1 i1) (fun _ => ?_))
      clear hK
      exact t2_3_ u2 u3 w1 i1
  have t_ : ∀ w', I_  w' → wpAnyH P .any #[o0, o1, o2, o3, o4, o5, o6, o7, o8, o9, o10, o11, o12, o13] (NoPanic Q) S 11 #[true, true, false, false, false, true, false, false, false, false, false, false, false, false] B w' := by
    intro w0 i0
    refine wpAnyH_ready (rs := [2, 3]) q_ (by simp) (AllReadyH.cons (o := o2) rfl (fun K hK => ?_) (AllReadyH.cons (o := o3) rfl (fun K hK => ?_) AllReadyH.nil))
    · rw [if_pos (wa2 _)]
      refine s_2  w0 i0 K (fun u2 w1 i1 => hK.out _ _ (z2_ u2 w1 i1) (fun _ => ?_))
      clear hK
      exact t2_ u2 w1 i1
    · rw [if_pos (wa3 _)]
      refine s_3  w0 i0 K (fun u3 w1 i1 => hK.out _ _ (z3_ u3 w1 i1) (fun _ => ?_))
      clear hK
      exact t3_ u3 w1 i1
  exact t_ w.drew i0

end
end Go.Proofs.YtjafmnemobcipaaDoor
/-
  One operation: a call, by its contract.
-/
namespace Go.Proofs.YtjafmnemobcipaaDoor
open Go Go.RowKit Go.BigFrame
set_option linter.unusedVariables false
set_option linter.unusedSimpArgs false

theorem wp_callN {o : Oper} {a : Act} {w : World} {K : Act → World → Prop} {Q : Exit → Act → World → Prop} {f : FuncId} {xs : Array Operand} {ts : Array TypeId} (ho : o.op = .call { callee := .value (.func f), args := xs, argTypes := ts })
    (hcl : ∀ args W, (callFunc f args).run Tryd.prog W = .ok (.enter f args) W) (us : List Value) (he : xs.toList.map a.eval = us) {R : Ending → World → Prop}
    (hc : Calls Tryd.prog f us.toArray w R) (h : ∀ e w', R e w' → ∃ v, e = .returned v ∧ K (a.put o.dst v) w') : o.wp Tryd.prog a w K Q := by
  have he2 : xs.map a.eval = us.toArray := by rw [← he]; cases xs; simp only [List.map_toArray]
  unfold Oper.wp execOp
  simp only [ho]
  have hf : a.eval (.func f) = .func (.func f) #[] #[] := rfl
  simp only [resolve, invoke, hf, he2, Sem.run_bind, Sem.run_pure, Result.andThen_ok, hcl]
  simp [Deferred.ofValue, hcl, go_sem]
  refine hc.mono ?_
  intro e w2 h2
  obtain ⟨v, rfl, h3⟩ := h e w2 h2
  exact h3
end Go.Proofs.YtjafmnemobcipaaDoor
namespace Go.Proofs.YtjafmnemobcipaaDoor
open Go.RowKit Go.BigFrame
set_option linter.unusedVariables false
set_option linter.unusedSimpArgs false

theorem bw_kept (w : World) (e : TypeId) (s : ByteArray) : Kept [] w (Lib.bytesWorld w e s) := ⟨rfl, rfl, rfl, by rw [Lib.bytesWorld_size]; omega, fun k hk _ => Lib.bytesWorld_at_old w e s k hk⟩
theorem strOf_size (bs : List Nat) : (strOf bs).size = bs.length := by simp [strOf, ByteArray.size]
theorem bw_rd (w : World) (bs : List Nat) (hb : ∀ x ∈ bs, x < 256) (hl : bs.length ≤ 1000000) : Rd (Lib.bytesWorld w 5 (strOf bs)) (.slice (some ⟨w.heap.size, 0, none⟩) (strOf bs).size (grownCap w (strOf bs).size 0 5)) bs := by
  have h1 := grownCap_ge w (strOf bs).size 0 5
  have h2 := grownCap_le_maxLen w (strOf bs).size 0 5 (by rw [strOf_size]; unfold maxLen; omega)
  rw [strOf_size] at h1 h2 ⊢
  unfold maxLen at h2
  refine ⟨_, _, _, rfl, rfl, h1, ⟨by omega, by omega⟩, fun h => by simp at h, hb, fun hp => ⟨w.heap.size, 0, rfl, fun i hi => ?_⟩⟩
  rw [Nat.zero_add, Lib.bytesWorld_cell w 5 (strOf bs) i (by rw [strOf_size]; exact hi)]
  have hx := hb (bs[i]) (List.getElem_mem hi)
  simp [strOf, List.getD_eq_getElem?_getD, hi, u8]
  omega
theorem conv_str (w : World) (bs : List Nat) (n : Nat) (hn : bs.length = n) (hb : ∀ x ∈ bs, x < 256) (hl : n ≤ 1000000) : ∃ W c, (convert 9 22 (.string (strOf bs))).run Tryd.prog w = .ok (.slice (some ⟨w.heap.size, 0, none⟩) n c) W ∧ Rd W (.slice (some ⟨w.heap.size, 0, none⟩) n c) bs ∧ Kept [] w W ∧ W.heap.size = w.heap.size + 1 := by
  have hu5 : Tryd.prog.underlying 5 = some (.int .u8) := by kernel_rfl
  have hu9 : Tryd.prog.underlying 9 = some .string := by kernel_rfl
  subst hn
  exact ⟨_, _, by rw [Lib.run_convert_string_bytes w 9 22 5 (strOf bs) hu9 Tryd.underlying22 hu5, strOf_size], by have := bw_rd w bs hb hl; rwa [strOf_size] at this, bw_kept w 5 _, Lib.bytesWorld_size w 5 _⟩

set_option maxRecDepth 100000 in
set_option maxHeartbeats 2000000 in
theorem hbucket_any (w : World) :
    Calls Tryd.prog 11 #[.string (strOf [97]), .string (strOf [49])] w fun e w' => (∃ v', e = .returned (.agg #[.slice none 0 0, v']) ∧ RdK w' v' [([97], [49])]) ∧ Kept [] w w' := by
  go_enter Tryd.func11, Tryd.ntmps11
  have hk0 := (Kept.refl [] w).alloc (.cells #[.slice none 0 0, .slice none 0 0] 26)
  have hg0 := heap_alloc_new w (.cells #[.slice none 0 0, .slice none 0 0] 26)
  obtain ⟨W0, hW0⟩ : ∃ W0, w.alloc (.cells #[.slice none 0 0, .slice none 0 0] 26) = W0 := ⟨_, rfl⟩
  rw [hW0] at hk0 hg0
  obtain ⟨W1, n1, hr1, r1, k1, z1⟩ := conv_str W0 [97] 1 rfl (by decide) (by decide)
  obtain ⟨W2, n2, hr2, r2, k2, z2⟩ := conv_str W1 [49] 1 rfl (by decide) (by decide)
  have R1 := hide r1
  have R2 := hide r2
  have K1 := hide k1
  have K2 := hide k2
  have K0 := hide hk0
  clear r1 r2 k1 k2 hk0
  have HG2 := hide ((unhide K2).heap ((unhide K1).heap hg0 (by simp)) (by simp))
  clear hg0
  generalize strOf [97] = s1 at *
  generalize strOf [49] = s2 at *
  have hs2 : w.heap.size < W2.heap.size := lt_of_block (unhide HG2)
  have HG3 := hide (((Kept.refl [] W2).alloc (.cells #[.slice (some ⟨W0.heap.size, 0, none⟩) 1 n1, .slice (some ⟨W0.heap.size + 1, 0, none⟩) 1 n2] 64)).heap (unhide HG2) (by simp))
  have HP3 := hide (heap_alloc_new W2 (.cells #[.slice (some ⟨W0.heap.size, 0, none⟩) 1 n1, .slice (some ⟨W0.heap.size + 1, 0, none⟩) 1 n2] 64))
  have HK3 := hide ((Kept.refl [] W2).alloc (.cells #[.slice (some ⟨W0.heap.size, 0, none⟩) 1 n1, .slice (some ⟨W0.heap.size + 1, 0, none⟩) 1 n2] 64))
  go_wp2_with (first
    | (rw [hW0])
    | (show wpList _ #[_, _, _, _, _, _, _, _] _ [_] _ _; go_must (refine wpList_store_row rfl 26 _ _ rfl w.heap.size #[.slice none 0 0, .slice (some ⟨W0.heap.size + 1 + 1, 0, none⟩) 1 1] rfl rfl _ #[.slice none 0 0, .slice none 0 0] (unhide HG3) (by kernel_rfl) rfl (by simp [Value.oneCell']) ?_)))
  have kF := (((unhide K0).trans (unhide K1) (by simp)).trans (unhide K2) (by simp)).trans (unhide HK3) (by simp)
  have kR := (Kept.refl [w.heap.size] (W2.alloc (.cells #[.slice (some ⟨W0.heap.size, 0, none⟩) 1 n1, .slice (some ⟨W0.heap.size + 1, 0, none⟩) 1 n2] 64))).setRow (g := w.heap.size) (Or.inl (by simp)) #[.slice none 0 0, .slice (some ⟨W0.heap.size + 1 + 1, 0, none⟩) 1 1]
  have hz0 : w.heap.size + 1 = W0.heap.size := by rw [← hW0]; simp
  have e2 : W2.heap.size = W0.heap.size + 1 + 1 := by rw [z2, z1]
  have HPF := hide (kR.heap (unhide HP3) (by simp; omega))
  have hR1 := (((unhide R1).old (unhide K2) (by simp)).old (unhide HK3) (by simp)).kept kR (by simp [blk]; omega)
  have hR2 := ((unhide R2).old (unhide HK3) (by simp)).kept kR (by simp [blk]; omega)
  have HZF := setRow_heap _ w.heap.size _ #[.slice none 0 0, .slice (some ⟨W0.heap.size + 1 + 1, 0, none⟩) 1 1] 26 (0, 0) (unhide HG3)
  refine bodyPost_ret (v := .agg #[.slice none 0 0, .slice (some ⟨W0.heap.size + 1 + 1, 0, none⟩) 1 1]) ?_ rfl ⟨⟨_, rfl, ?_⟩, kF.setRow (g := w.heap.size) (Or.inr (Nat.le_refl _)) _⟩
  · exact results_cell_row rfl _ _ w.heap.size _ #[.slice none 0 0, .slice (some ⟨W0.heap.size + 1 + 1, 0, none⟩) 1 1] (0, 0) _ rfl HZF Tryd.underlying26 rfl (by kernel_rfl)
  · rw [z1] at hR2
    refine ⟨_, 1, 1, [.slice (some ⟨W0.heap.size, 0, none⟩) 1 n1], [.slice (some ⟨W0.heap.size + 1, 0, none⟩) 1 n2], rfl, rfl, Nat.le_refl _, by decide, fun i hi => ?_, fun _ => ⟨W0.heap.size + 1 + 1, 0, rfl, fun i hi => ?_⟩⟩
    · obtain rfl : i = 0 := by omega
      exact ⟨hR1, hR2⟩
    · obtain rfl : i = 0 := by omega
      have h9 := unhide HPF
      rw [e2] at h9
      exact ⟨cell_of_row _ _ _ _ _ _ h9, cell_of_row _ _ _ _ _ _ h9⟩

theorem rd_row {w : World} {g : Nat} (bs : List Nat) {cs : Array Value} {fr : Nat × Nat} (h : w.heap[g]? = some (.cells cs 5 fr)) (hc : cs = (bs.map u8).toArray) (hb : ∀ x ∈ bs, x < 256) (n : Nat) (hn : bs.length = n) (hl : n ≤ 140737488355328) : Rd w (.slice (some ⟨g, 0, none⟩) n n) bs := by
  refine ⟨_, n, n, rfl, hn, Nat.le_refl _, ⟨by omega, hl⟩, fun h => by simp at h, hb, fun hp => ⟨g, 0, rfl, fun i hi => ?_⟩⟩
  subst hc
  have hi' : i < bs.length := by omega
  rw [cell_of_row _ _ _ _ _ _ h, Nat.zero_add, List.getElem?_toArray, List.getElem?_map, List.getElem?_eq_getElem hi', List.getD_eq_getElem?_getD, List.getElem?_eq_getElem hi']
  rfl
def ps1 : List (List Nat × List Nat) := [([97], [49])]
theorem ps1_pb : (pairB ps1).length ≤ 1000000000000 := by
  have u1 := uv_len 1 (by omega)
  have e : pairB ps1 = uv 1 ++ [97] ++ (uv 1 ++ [49]) := by simp [pairB, ps1]
  rw [e]
  simp
  omega
theorem run_conv_at {w : World} {g n c : Nat} {C : Array Value} (h : w.heap[g]? = some (.cells C 5 (0, 0))) : (convert 22 22 (.slice (some ⟨g, 0, none⟩) n c)).run Tryd.prog w = .ok (.slice (some ⟨g, 0, none⟩) n c) (w.freeze ⟨g, C.size, none⟩ 1) := by
  have hsh : w.shape? g = some (5, C.size) := by unfold World.shape?; rw [h]
  simp [convert, run_underlying (P := Tryd.prog) Tryd.underlying22, run_underlying (P := Tryd.prog) Tryd.underlying5, markStringish, hsh]
theorem freeze_at {w : World} {g k : Nat} {C : Array Value} (h : w.heap[g]? = some (.cells C 5 (0, 0))) : (w.freeze ⟨g, k, none⟩ 1).heap[g]? = some (.cells C 5 (k, k + 1)) := by
  unfold World.freeze
  rw [if_neg (by decide)]
  show (w.heap.modify g _)[g]? = _
  rw [Array.getElem?_modify, if_pos rfl, h]
  rfl
theorem freeze_kept {L : List Nat} {X w : World} {g k : Nat} (h : Kept L X w) (hg : g ∈ L ∨ X.heap.size ≤ g) : Kept L X (w.freeze ⟨g, k, none⟩ 1) := by
  unfold World.freeze
  rw [if_neg (by decide)]
  refine ⟨h.os, h.tape, h.output, ?_, fun j hj hn => ?_⟩
  · show X.heap.size ≤ (w.heap.modify g _).size
    rw [Array.size_modify]; exact h.size
  · show (w.heap.modify g _)[j]? = _
    rw [Array.getElem?_modify, if_neg (by rintro rfl; rcases hg with h9 | h9; exact hn h9; omega)]
    exact h.block j hj hn
theorem aw_rt : rtE 2 [97] [] ps1 = 0 ∧ rtD 2 [97] [] ps1 = sumD 2 (buckB ps1) ∧ rtV 2 [97] [] ps1 = some [49] := by
  have h0 : hfE 2 [97] [] [] = 0 := by decide
  have hp : ∀ ks, provB 2 ks [] ps1 = true := by intro ks; simp [provB, fitsB, ps1, risB, hanB]
  have h := rtE_mk h0 (hp (keyS 2 [97]))
  refine ⟨h, ?_, ?_⟩
  · unfold rtD; rw [if_pos h]; rfl
  · unfold rtV; rw [if_pos h]; rfl
theorem aw_ck : ckE 2 (sumD 2 (buckB ps1)) [98] [] ps1 = 0 ∧ ckV 2 (sumD 2 (buckB ps1)) [98] [] ps1 = none := by
  have h0 : hfE 2 [98] [] [] = 0 := by decide
  have hp : ∀ ks, provB 2 ks [] ps1 = true := by intro ks; simp [provB, fitsB, ps1, risB, hanB]
  have h := rtE_mk h0 (hp (keyS 2 [98]))
  have hd : rtD 2 [98] [] ps1 = sumD 2 (buckB ps1) := by unfold rtD; rw [if_pos h]; rfl
  have hc : ckE 2 (sumD 2 (buckB ps1)) [98] [] ps1 = 0 := by rw [← hd]; exact agr_ok h
  refine ⟨hc, ?_⟩
  unfold ckV rtV
  rw [if_pos hc, if_pos h]; rfl

def tupAt : Value → Nat → Value
  | .tuple vs, i => vs.toList.getD i undef
  | _, _ => undef

set_option maxRecDepth 100000 in
set_option maxHeartbeats 2000000 in
theorem hawake_any (w : World) (hT : Tabs w) :
    Calls Tryd.prog 5 #[] w fun e w' => e = .returned (.bool true) ∧ Kept [] w w' := by
  have HT := hide hT
  clear hT
  go_enter Tryd.func5, Tryd.ntmps5
  go_wp2_with fail
  refine Calls.mono (hbucket_any _) ?_
  rintro e w1 ⟨⟨v1, rfl, r1⟩, k1⟩
  have HR1 := hide r1
  obtain ⟨pa, pn, pc, _, _, rfl, _⟩ := id r1
  clear r1
  have kN := (k1.alloc (.cells #[.slice none 0 0, .slice none 0 0] 26)).setRow (g := w1.heap.size) (Or.inr k1.size) #[.slice none 0 0, .slice pa pn pc]
  have HN1 := hide (setRow_heap (w1.alloc (.cells #[.slice none 0 0, .slice none 0 0] 26)) w1.heap.size _ #[.slice none 0 0, .slice pa pn pc] 26 (0, 0) (heap_alloc_new _ _))
  have HK1 := hide kN
  have HP1 := hide ((unhide HR1).old (((Kept.refl [] w1).alloc (.cells #[.slice none 0 0, .slice none 0 0] 26)).setRow (g := w1.heap.size) (Or.inr (Nat.le_refl _)) #[.slice none 0 0, .slice pa pn pc]))
  clear kN k1 HR1
  have hc1 := Go.Joins.run_convert_bytes_const_at (P := Tryd.prog) ((w1.alloc (.cells #[.slice none 0 0, .slice none 0 0] 26)).setRow w1.heap.size #[.slice none 0 0, .slice pa pn pc]) 22 5 #[.int .u8 97] 1 1 (w1.heap.size + 1) (by simp) Tryd.underlying22 Tryd.underlying5
  have kc := (Kept.refl [] ((w1.alloc (.cells #[.slice none 0 0, .slice none 0 0] 26)).setRow w1.heap.size #[.slice none 0 0, .slice pa pn pc])).alloc (.cells #[.int .u8 97] 5 (1, 2))
  have HN2 := hide (kc.heap (unhide HN1) (by simp))
  have HP2 := hide ((unhide HP1).old kc)
  have HK2 := hide ((unhide HK1).trans kc (by simp))
  have hz9 : ((w1.alloc (.cells #[.slice none 0 0, .slice none 0 0] 26)).setRow w1.heap.size #[.slice none 0 0, .slice pa pn pc]).heap.size = w1.heap.size + 1 := by simp
  have HB2 := hide (rd_row (n := 1) [97] (heap_alloc_new ((w1.alloc (.cells #[.slice none 0 0, .slice none 0 0] 26)).setRow w1.heap.size #[.slice none 0 0, .slice pa pn pc]) (.cells #[.int .u8 97] 5 (1, 2))) rfl (by decide) rfl (by decide))
  rw [hz9] at HB2
  clear kc hz9 HN1 HP1 HK1
  go_wp2_with (first
    | (show wpList _ _ _ [_] _ (World.alloc _ _); refine wpList_store_row rfl 26 _ _ rfl w1.heap.size #[.slice none 0 0, .slice pa pn pc] rfl rfl _ #[.slice none 0 0, .slice none 0 0] (heap_alloc_new _ _) (by kernel_rfl) rfl (by simp [Value.oneCell']) ?_)
    | (refine wpList_load_row rfl 26 _ rfl w1.heap.size rfl _ #[.slice none 0 0, .slice pa pn pc] (0, 0) _ (unhide HN2) Tryd.underlying26 rfl (by kernel_rfl) ?_))
  obtain ⟨X, hX⟩ : ∃ X, ((w1.alloc (.cells #[.slice none 0 0, .slice none 0 0] 26)).setRow w1.heap.size #[.slice none 0 0, .slice pa pn pc]).alloc (.cells #[.int .u8 97] 5 (1, 2)) = X := ⟨_, rfl⟩
  have hX' : (#[Value.int IntKind.u8 97] : Array Value).size = 1 := rfl
  simp only [hX', Nat.reduceAdd] at hc1 ⊢
  rw [hX] at HN2 HP2 HK2 HB2 ⊢
  clear hX hX' hc1
  refine Calls.mono (hrootOf_any 2 _ [97] _ _ [] ps1 _ (by decide) (unhide HB2) (RdS.nil _) (unhide HP2) ((unhide HT).k (unhide HK2)) ps1_pb (by decide) (by decide) (by simp)) ?_
  rintro e w2 ⟨⟨v2, rfl, r2⟩, k2⟩
  rw [aw_rt.1, aw_rt.2.1]
  rw [aw_rt.2.2] at r2 ⊢
  have HV2 := hide r2
  obtain ⟨va, vn, vc, rfl, _⟩ := id r2
  have HDG := hide (sumD_dg 2 (buckB ps1))
  generalize hD : sumD 2 (buckB ps1) = D at HDG ⊢
  have HD := hide hD
  clear hD r2
  have hdl := (unhide HDG).1
  have HSZ := hide (Tryd.szD hdl)
  have kN := (k2.alloc (.cells (zb 32) 29)).setRow (g := w2.heap.size) (Or.inr k2.size) (brow D)
  have kS := ((Kept.refl [] w2).alloc (.cells (zb 32) 29)).setRow (g := w2.heap.size) (Or.inr (Nat.le_refl _)) (brow D)
  have HD3 := hide (setRow_heap (w2.alloc (.cells (zb 32) 29)) w2.heap.size (zb 32) (brow D) 29 (0, 0) (heap_alloc_new _ _))
  have HN3 := hide (kN.heap (unhide HN2) (by simp))
  have HP3 := hide ((unhide HP2).old kN)
  have HK3 := hide ((unhide HK2).trans kN (by simp))
  have HV3 := hide ((unhide HV2).old kS (by simp))
  clear kN kS k2 HN2 HP2 HK2 HB2 HV2
  have c3 : ((w2.alloc (.cells (zb 32) 29)).setRow w2.heap.size (brow D)).cell? ⟨w1.heap.size, 1, none⟩ = some (.slice pa pn pc) := cell_of_row _ _ 1 _ _ _ (unhide HN3)
  go_wp2_with (first
    | (rw [zb32]; refine wpList_store_row rfl 29 _ _ rfl w2.heap.size (brow D) rfl rfl _ (zb 32) (heap_alloc_new _ _) (unhide HSZ) (by rw [zb_size, brow_size, hdl]) (brow_one _) ?_))
  have c30 : ((w2.alloc (.cells (zb 32) 29)).setRow w2.heap.size (brow D)).cell? ⟨w1.heap.size, 0, none⟩ = some (.slice none 0 0) := cell_of_row _ _ 0 _ _ _ (unhide HN3)
  obtain ⟨X, hX⟩ : ∃ X, (w2.alloc (.cells (zb 32) 29)).setRow w2.heap.size (brow D) = X := ⟨_, rfl⟩
  rw [hX] at HD3 HN3 HP3 HK3 HV3 c3 c30 ⊢
  clear hX
  have hgx : w1.heap.size < X.heap.size := lt_of_block (unhide HN3)
  have hxx : X.heap.size ≤ X.heap.size ∧ w1.heap.size < X.heap.size := ⟨Nat.le_refl _, hgx⟩
  have HTX := hide ((unhide HT).k (unhide HK3))
  have HCB := hide (fun w0 (hw0 : Kept [] X w0) => refBucket_any 2 (.slice pa pn pc) ps1 w0 (by decide) ((unhide HP3).old hw0) ps1_pb)
  rw [show sumD ((2 : Nat) : Int) (buckB ps1) = D from unhide HD] at HCB
  have HCC := hide (fun w0 (hw0 : Kept [] X w0) kv (hk : Rd w0 kv [98]) => hcheck_any 2 D kv [98] (.slice none 0 0) (.slice pa pn pc) [] ps1 w0 (by decide) (unhide HDG) hk (RdS.nil _) ((unhide HP3).old hw0) ((unhide HTX).k hw0) ps1_pb (by decide) (by decide) (by simp))
  have hck := aw_ck
  rw [unhide HD] at hck
  rw [hck.1, hck.2] at HCC
  clear hck
  refine wp_haw14 (by kernel_rfl) (by kernel_rfl) (by kernel_rfl) (by kernel_rfl) (by kernel_rfl) (by kernel_rfl) (by kernel_rfl) (by kernel_rfl) (by kernel_rfl) (by kernel_rfl) (by kernel_rfl) (by kernel_rfl) (by kernel_rfl) (by kernel_rfl) (by kernel_rfl) (by kernel_rfl) (by kernel_rfl) (by kernel_rfl) (by kernel_rfl) (by kernel_rfl) (by kernel_rfl) (by kernel_rfl) (by kernel_rfl) (by kernel_rfl) (by kernel_rfl) (by kernel_rfl) (by kernel_rfl) (by kernel_rfl) (by kernel_rfl) rfl rfl rfl rfl (by simp) (by simp)
    (.pointer (some ⟨w1.heap.size, 1, none⟩)) (.slice pa pn pc) (.agg #[.slice none 0 0, .slice pa pn pc]) _ _ _
    (fun w' => Kept [] X w')
    (fun w' => Kept [] X w')
    (fun u2 w' => u2 = .agg (brow D) ∧ Kept [] X w')
    (fun u3 w' => ∃ g, u3 = .slice (some ⟨g, 0, none⟩) 1 1 ∧ X.heap.size ≤ g ∧ w'.heap[g]? = some (.cells #[.int .u8 98] 5 (0, 0)) ∧ Kept [] X w')
    (fun u2 u3 w' => u2 = .agg (brow D) ∧ ∃ g, u3 = .slice (some ⟨g, 0, none⟩) 1 1 ∧ X.heap.size ≤ g ∧ w'.heap[g]? = some (.cells #[.int .u8 98] 5 (0, 0)) ∧ Kept [] X w')
    (fun u3 u4 w' => Rd w' u4 [98] ∧ Kept [] X w')
    (fun u2 u3 u4 w' => u2 = .agg (brow D) ∧ Rd w' u4 [98] ∧ Kept [] X w')
    (fun u2 u3 u4 u6 w' => ∃ a c, u6 = .tuple #[.slice a 0 c, .bool false, .int .i64 0] ∧ Kept [] X w')
    (fun u => u) (fun u => tupAt u 0) (fun u => tupAt u 1) (fun u => tupAt u 2) (fun u => tupAt u 0) (fun u => tupAt u 1) (fun u => tupAt u 2)
    (by simp only [Act.put, List.setIfInBounds_toArray, List.set_cons_zero, List.set_cons_succ]; rfl) (by exact Or.inl ⟨by rfl, fun W' hW' => by go_simp⟩)
    (by simp only [Act.put, List.setIfInBounds_toArray, List.set_cons_zero, List.set_cons_succ]; rfl) (by exact Or.inl ⟨by rfl, fun W' hW' => by have h9 := hW'.cell c3 (by simp); go_simp⟩)
    (by simp only [Act.put, List.setIfInBounds_toArray, List.set_cons_zero, List.set_cons_succ]; rfl) (by exact Or.inl ⟨by rfl, fun W' hW' => by have h9 := hW'.cell c3 (by simp); have h8 := hW'.cell c30 (by simp); go_simp⟩)
    (Kept.refl [] X).drew
    ⟨fun w' h => h, fun u2 w' h => h.2, fun u3 w' h => by obtain ⟨g, _, _, _, h⟩ := h; exact h, fun u2 u3 w' h => by obtain ⟨_, g, _, _, _, h⟩ := h; exact h, fun u3 u4 w' h => h.2, fun u2 u3 u4 w' h => h.2.2, fun u2 u3 u4 u6 w' h => by obtain ⟨a, c, _, h⟩ := h; exact h⟩
    (by intro w' i K hK; exact wp_callN rfl Tryd.call13 [.int .i64 2, .slice pa pn pc] rfl (unhide HCB w' i) (fun e w2 h => ⟨_, h.1, hK _ _ ⟨rfl, i.trans h.2 (by simp)⟩⟩))
    (by intro w' i K hK; unfold Oper.wp execOp; go_simp; exact hK _ _ ⟨_, rfl, i.size, heap_alloc_new _ _, i.alloc _⟩)
    (by rintro u2 w' ⟨rfl, i⟩ K hK; unfold Oper.wp execOp; go_simp; exact hK _ _ ⟨rfl, _, rfl, i.size, heap_alloc_new _ _, i.alloc _⟩)
    (by rintro u3 w' ⟨g, rfl, hg, hh, i⟩ K hK; exact wp_callN rfl Tryd.call13 [.int .i64 2, .slice pa pn pc] rfl (unhide HCB w' i) (fun e w2 h => ⟨_, h.1, hK _ _ ⟨rfl, _, rfl, hg, h.2.heap hh (by simp), i.trans h.2 (by simp)⟩⟩))
    (by rintro u3 w' ⟨g, rfl, hg, hh, i⟩ K hK; have hcv := run_conv_at (n := 1) (c := 1) hh; unfold Oper.wp execOp; go_simp; exact hK _ _ ⟨rd_row [98] (freeze_at hh) rfl (by decide) 1 rfl (by decide), freeze_kept i (Or.inr hg)⟩)
    (by rintro u2 u3 w' ⟨rfl, g, rfl, hg, hh, i⟩ K hK; have hcv := run_conv_at (n := 1) (c := 1) hh; unfold Oper.wp execOp; go_simp; exact hK _ _ ⟨rfl, rd_row [98] (freeze_at hh) rfl (by decide) 1 rfl (by decide), freeze_kept i (Or.inr hg)⟩)
    (by rintro u3 u4 w' ⟨hr, i⟩ K hK; exact wp_callN rfl Tryd.call13 [.int .i64 2, .slice pa pn pc] rfl (unhide HCB w' i) (fun e w2 h => ⟨_, h.1, hK _ _ ⟨rfl, hr.old h.2 (by simp), i.trans h.2 (by simp)⟩⟩))
    (by rintro u2 u3 u4 w' ⟨rfl, hr, i⟩ K hK; refine wp_callN rfl Tryd.call12 [.int .i64 2, .agg (brow D), u4, .agg #[.slice none 0 0, .slice pa pn pc]] rfl (unhide HCC w' i _ hr) ?_; rintro e w2 ⟨⟨v', rfl, hv⟩, k⟩; obtain ⟨a, n, c, rfl, hn, _⟩ := id hv; simp at hn; subst hn; exact ⟨_, rfl, hK _ _ ⟨a, c, rfl, i.trans k (by simp)⟩⟩)
    (by rintro u2 u3 u4 u6 w' ⟨a, c, rfl, _⟩; exact Or.inl ⟨by rfl, fun W' hW' => by go_simp⟩)
    (by rintro u2 u3 u4 u6 w' ⟨a, c, rfl, _⟩; exact Or.inl ⟨by rfl, fun W' hW' => by simp only [tupAt]; go_simp⟩)
    (by rintro u2 u3 u4 u6 w' ⟨a, c, rfl, _⟩; exact Or.inl ⟨by rfl, fun W' hW' => by simp only [tupAt]; go_simp⟩)
    (by rintro u2 u3 u4 u6 w' ⟨a, c, rfl, _⟩; exact Or.inl ⟨by rfl, fun W' hW' => by simp only [tupAt]; go_simp⟩)
    (by rintro u2 u3 u4 u6 w' ⟨a, c, rfl, _⟩; exact Or.inl ⟨by rfl, fun W' hW' => by simp only [tupAt]; go_simp⟩)
    (by rintro u2 u3 u4 u6 w' ⟨a, c, rfl, _⟩; exact Or.inl ⟨by rfl, fun W' hW' => by simp only [tupAt]; go_simp⟩)
    (by rintro u2 u3 u4 u6 w' ⟨a, c, rfl, _⟩; exact Or.inl ⟨by rfl, fun W' hW' => by simp only [tupAt]; go_simp⟩)
    ?_
  rintro u2 u3 u4 u6 w6 ⟨sa, sc, rfl, k6⟩
  simp only [Act.put, List.setIfInBounds_toArray, List.set_cons_zero, List.set_cons_succ, tupAt, List.getD_cons_zero, List.getD_cons_succ]
  have HD4 := hide (k6.heap (unhide HD3) (by simp))
  have HN4 := hide (k6.heap (unhide HN3) (by simp))
  have HP4 := hide ((unhide HP3).old k6)
  have HK4 := hide ((unhide HK3).trans k6 (by simp))
  have HV4 := hide ((unhide HV3).old k6 (by simp))
  have c4 := k6.cell c3 (by simp)
  clear k6 HD3 HN3 HP3 HK3 HV3 c3 c30 HCC
  have hne : ∀ p : Prop, (∀ w', Kept [] w6 w' → p) = p := fun p => propext ⟨fun h => h w6 (Kept.refl [] w6), fun h _ _ => h⟩
  have HCK := hide (fun w' (hw' : Kept [] w6 w') => (refBucket_any 2 (.slice pa pn pc) ps1 w' (by decide) ((unhide HP4).old hw') ps1_pb).mono (fun e w2 h2 => ⟨h2.1, hw'.trans h2.2 (by simp)⟩) : ∀ w', Kept [] w6 w' → Calls Tryd.prog 13 #[.int .i64 2, .slice pa pn pc] w' fun e w2 => e = .returned (.agg (brow (sumD ((2 : Nat) : Int) (buckB ps1)))) ∧ Kept [] w6 w2)
  rw [show sumD ((2 : Nat) : Int) (buckB ps1) = D from unhide HD] at HCK
  have heq := fun W => dig_eq W D D hdl hdl
  rw [decide_eq_true rfl] at heq
  have HCV := hide (fun w' (hw' : Kept [] w6 w') => conv_any (.slice va vn vc) [49] w' ((unhide HV4).old hw' (by simp)) (by kernel_rfl) (by kernel_rfl))
  have hst : strOf [49] = ⟨#[49]⟩ := rfl
  rw [hst] at HCV
  clear hst HCB
  go_wp2_with fail
  refine wp_region_keep (by kernel_rfl) (by kernel_rfl) ?_
  iterate 7 (go_big_quiet_step (fail))
  refine wpQuiet_val rfl (.string ⟨#[49]⟩) (fun w' hw' => by have h9 := unhide HCV w' hw'; unfold execOp; go_simp) ?_
  simp only [Act.put, List.setIfInBounds_toArray, List.set_cons_succ, List.set_cons_zero]
  iterate 3 (go_big_quiet_step (fail))
  refine wpQuiet_row rfl 29 (.tmp 2) rfl w2.heap.size rfl _ (brow D) (0, 0) _ (fun w' hw' => hw'.heap (unhide HD4) (by simp)) Tryd.underlying29 rfl (unhide HSZ) ?_
  simp only [Act.put, List.setIfInBounds_toArray, List.set_cons_succ, List.set_cons_zero]
  go_big_quiet_step (fail)
  refine wpQuiet_val rfl (.slice pa pn pc) (fun w' hw' => by have h9 := hw'.cell c4 (by simp); go_simp) ?_
  simp only [Act.put, List.setIfInBounds_toArray, List.set_cons_succ, List.set_cons_zero]
  go_big_quiet_want
  go_big_quiet_op
  apply Exists.intro
  refine ⟨fun w' hw' => ?_, ?_⟩
  · exact unhide HCK w' hw'
  go_big_quiet_on
  refine wpQuiet_val rfl (.bool true) (fun w' hw' => run_eql 29 (.tmp 41) (.tmp 44) _ rfl (brow D) (brow D) rfl rfl w' true (by kernel_rfl) (heq w')) ?_
  simp only [Act.put, List.setIfInBounds_toArray, List.set_cons_succ, List.set_cons_zero]
  repeat (go_big_quiet_step (fail))
  refine wpQuiet_nil ?_
  intro w7 hw7
  have HK7 := hide ((unhide HK4).trans hw7 (by simp))
  clear hw7
  go_wp2
  go_ret
  exact ⟨rfl, unhide HK7⟩
end Go.Proofs.YtjafmnemobcipaaDoor
namespace Go.Proofs.YtjafmnemobcipaaDoor
open Go.ChangeShapes Go.WideShapes Go.ChangeAt Go.RowKit Go.Deep
set_option linter.unusedVariables false
set_option linter.unusedSimpArgs false

theorem own : ownKnob Tryd.prog.godebug = none := by kernel_rfl
theorem laidOut : laidOutB Tryd.prog = true := by kernel_rfl
theorem byte_of_wf {x : Int} (h : (Lit.int .u8 x).wf = true) : 0 ≤ x ∧ x < 256 := by
  simp [Lit.wf, IntKind.min, IntKind.max, IntKind.signed, IntKind.bits] at h
  exact ⟨by omega, by omega⟩
theorem int_of_wf {x : Int} (h : (Lit.int .i64 x).wf = true) : -9223372036854775808 ≤ x ∧ x ≤ 9223372036854775807 := by
  simp [Lit.wf, IntKind.min, IntKind.max, IntKind.signed, IntKind.bits] at h
  exact ⟨by omega, by omega⟩

theorem bulk_one {H : Type} (d : DataW H) : 1 ≤ Rows.uptoBulk d := by
  cases d with
  | lit l => cases l <;> simp [Rows.uptoBulk]
  | nil => simp [Rows.uptoBulk]
  | ptr d => simp [Rows.uptoBulk]
  | slice elems spare => simp [Rows.uptoBulk]
  | agg parts => simp [Rows.uptoBulk]
  | iface t d => simp [Rows.uptoBulk]
  | map entries => simp [Rows.uptoBulk]
  | held h => simp [Rows.uptoBulk]
theorem bulk_len {H : Type} (l : List (DataW H)) : l.length ≤ Rows.uptoBulkAll l := by
  induction l with
  | nil => simp [Rows.uptoBulkAll]
  | cons x r ih => have := bulk_one x; simp only [Rows.uptoBulkAll, List.length_cons]; omega
theorem Tryd.bytes5 : Tryd.prog.bytesOf 5 = 1 := by kernel_rfl

section
variable {H : Type} {enc : TypeId × Value → H} {W : World}

/-- Bytes that came in, as the walks want them, of whatever length. -/
theorem open_bytes {fuel : Nat} {cs : List Value} {x : DataW H × List MemPlace} (h : DataW.trod enc Tryd.prog W 0 (fun _ => true) true fuel 22 cs = some x) :
    ∃ v bs, cs = [v] ∧ (bs.length ≤ 140737488355328 → Rd W v bs) ∧ ((bs = [] ∧ x.1 = .nil) ∨ ∃ elems spare, x.1 = .slice elems spare ∧ elems.length = bs.length) := by
  rcases open_ints Tryd.underlying22 Tryd.underlying5 (by kernel_rfl) h with ⟨rfl, rfl⟩ | ⟨a, len, cap, zs, rfl, _, hl, hm, hz, rfl, hcell, hwz⟩
  · exact ⟨_, [], rfl, fun _ => Rd.nil W, .inl ⟨rfl, rfl⟩⟩
  · have h2 : (lits (H := H) .u8 (zs.take len)).length = len := by simp only [lits, List.length_map, List.length_take]; simp at hz; omega
    have hbl : ((zs.take len).map Int.toNat).length = len := by simp at hz; simp; omega
    refine ⟨_, (zs.take len).map Int.toNat, rfl, fun hB => ⟨_, _, _, rfl, hbl, hl, ⟨by unfold maxLen at hm; omega, by omega⟩, by simp, ?_, ?_⟩, .inr ⟨_, _, rfl, by rw [h2, hbl]⟩⟩
    · intro y hy
      obtain ⟨z, hz1, rfl⟩ := List.mem_map.1 hy
      have := byte_of_wf (hwz z (List.mem_of_mem_take hz1)); omega
    · intro hp
      simp at hz
      have hc0 := hcell 0 (by omega)
      obtain ⟨b, off, spot⟩ := a
      have hspot : spot = none := by simpa [Addr.add] using World.cell?_spot hc0
      subst hspot
      refine ⟨b, off, rfl, fun i hi => ?_⟩
      have hc := hcell i (by omega)
      have hzi : i < zs.length := by omega
      rw [Addr.add_mid] at hc
      rw [hc]
      have hw := byte_of_wf (hwz (zs[i]) (List.getElem_mem hzi))
      simp only [List.getD_eq_getElem?_getD, List.getElem?_eq_getElem hzi, Option.getD_some, List.getElem?_map, List.getElem?_take, hi, if_true, Option.map_some]
      simp [u8]; omega
/-- Their length, by the reach. -/
theorem reach_bytes {ts : List TypeId} {ds : List (DataW H)} (h : (DataW.weightsEach Tryd.prog ts ds).all (· ≤ reachBytes) = true) {j : Nat} (ht : ts[j]? = some 22) {d : DataW H} (hd : ds[j]? = some d) {bs : List Nat}
    (hx : (bs = [] ∧ d = .nil) ∨ ∃ elems spare, d = .slice elems spare ∧ elems.length = bs.length) : bs.length ≤ 140737488351232 := by
  rcases hx with ⟨rfl, _⟩ | ⟨elems, spare, rfl, he⟩
  · simp
  · have := sized_slice h ht hd Tryd.underlying22
    rw [Tryd.bytes5, Nat.mul_one] at this
    unfold reachBytes at this
    omega
/-- Their length, by the bulk. -/
theorem bulk_bytes {d : DataW H} {bs : List Nat} (hx : (bs = [] ∧ d = .nil) ∨ ∃ elems spare, d = .slice elems spare ∧ elems.length = bs.length) : bs.length + 1 ≤ Rows.uptoBulk d := by
  rcases hx with ⟨rfl, rfl⟩ | ⟨elems, spare, rfl, he⟩
  · simp [Rows.uptoBulk]
  · have := bulk_len elems
    simp only [Rows.uptoBulk]; omega
end
end Go.Proofs.YtjafmnemobcipaaDoor
namespace Go.Proofs.YtjafmnemobcipaaDoor
open Go Go.RowKit
set_option linter.unusedVariables false
set_option linter.unusedSimpArgs false
section
variable {H : Type} {enc : TypeId × Value → H} {W : World}

def natOf : Value → Nat
  | .int _ n => n.toNat
  | _ => 0
/-- A digest that came in. -/
theorem open_dig {fuel : Nat} {cs : List Value} {x : DataW H × List MemPlace} (h : DataW.trod enc Tryd.prog W 0 (fun _ => true) true fuel 29 cs = some x) :
    ∃ l : List Nat, cs = l.map u8 ∧ l.length = 32 ∧ ∀ y ∈ l, y < 256 := by
  obtain ⟨xs, m, _, rfl, hl, hn, hc⟩ := DataW.trod_array Tryd.underlying29 h
  rw [show Tryd.prog.cellsOf 29 = 32 from by kernel_rfl] at hl
  rw [show Tryd.prog.cellsOf 5 = 1 from by kernel_rfl] at hc
  have key : ∀ i (hi : i < cs.length), cs[i] = u8 (natOf cs[i]) ∧ natOf cs[i] < 256 := by
    intro i hi
    have h1 := hc i (by omega)
    rw [Nat.mul_one, List.getElem?_eq_getElem (by omega)] at h1
    obtain ⟨n, e, _, hw⟩ := DataW.trod_int Tryd.underlying5 h1
    rw [List.drop_eq_getElem_cons hi, List.take_succ_cons, List.take_zero] at e
    simp only [List.cons.injEq, and_true] at e
    have := byte_of_wf hw
    rw [e]
    refine ⟨?_, ?_⟩
    · simp [u8, natOf]; omega
    · simp [natOf]; omega
  refine ⟨cs.map natOf, ?_, by simp [hl], ?_⟩
  · rw [List.map_map]
    refine List.ext_getElem (by simp) fun i h1 h2 => ?_
    rw [List.getElem_map]
    exact (key i h1).1
  · intro y hy
    obtain ⟨v, hv, rfl⟩ := List.mem_map.1 hy
    obtain ⟨i, hi, rfl⟩ := List.getElem_of_mem hv
    exact (key i hi).2
set_option maxRecDepth 100000 in
theorem open_digv {b0 : Nat} {v : Value} {d : DataW H} {ps : List MemPlace} (hv : Value.okWide Tryd.prog W .any b0 29 v) (h : DataW.Trod enc Tryd.prog W 0 (fun _ => true) true 29 v d ps) :
    ∃ l : List Nat, v = .agg (brow l) ∧ l.length = 32 ∧ ∀ y ∈ l, y < 256 := by
  unfold Value.okWide at hv
  rw [Tryd.underlying29] at hv
  obtain ⟨cs, rfl, _, _⟩ := hv
  obtain ⟨fuel, hf⟩ := h
  obtain ⟨l, e, h1, h2⟩ := open_dig hf
  refine ⟨l, ?_, h1, h2⟩
  simp only [Value.cells] at e
  unfold brow
  rw [← e]
end
end Go.Proofs.YtjafmnemobcipaaDoor
namespace Go.Proofs.YtjafmnemobcipaaDoor
open Go.ChangeShapes Go.WideShapes Go.ChangeAt Go.RowKit Go.Deep
set_option linter.unusedVariables false
set_option linter.unusedSimpArgs false

/-- A question: its width, key, steps, pairs, root. -/
structure AskH where
  z : Int
  k : List Nat
  ss : List (Nat × List (List Nat))
  ps : List (List Nat × List Nat)
  r : List Nat
def askH (q : AskH) (kv sv pv : Value) : List Value := [.int .i64 q.z, kv, sv, pv] ++ q.r.map u8
def zaskh : Array Value := (askH ⟨0, [], [], [], List.replicate 32 0⟩ (.slice none 0 0) (.slice none 0 0) (.slice none 0 0)).toArray
structure OkP (w : World) (ss : List (Nat × List (List Nat))) (ps : List (List Nat × List Nat)) (sv pv : Value) : Prop where
  s : RdS w sv ss
  p : RdK w pv ps
  sl : ss.length ≤ 1048576
  kl : ∀ x ∈ ss, x.2.length ≤ 1048576
  pw : kwt ps ≤ 1048576
theorem OkP.old {w w' : World} {ss : List (Nat × List (List Nat))} {ps : List (List Nat × List Nat)} {sv pv : Value} (h : OkP w ss ps sv pv) (k : Kept [] w w') : OkP w' ss ps sv pv := ⟨h.s.old k, h.p.old k, h.sl, h.kl, h.pw⟩
structure OkH (w : World) (q : AskH) (kv sv pv : Value) : Prop where
  z : -9223372036854775808 ≤ q.z ∧ q.z ≤ 9223372036854775807
  k : Rd w kv q.k
  kl : q.k.length ≤ 1048576
  P : OkP w q.ss q.ps sv pv
  r : Dg q.r
theorem OkH.old {w w' : World} {q : AskH} {kv sv pv : Value} (h : OkH w q kv sv pv) (k : Kept [] w w') : OkH w' q kv sv pv := ⟨h.z, h.k.old k (by simp), h.kl, h.P.old k, h.r⟩
theorem kwt_len (ps : List (List Nat × List Nat)) : 2 * ps.length ≤ kwt ps := by
  induction ps with
  | nil => simp [kwt]
  | cons x r ih =>
    have ek : kwt (x :: r) = x.1.length + x.2.length + 2 + kwt r := by simp [kwt]
    rw [ek, List.length_cons]; omega
section
variable {H : Type} {enc : TypeId × Value → H} {W : World}

theorem o_bulk_part {d : DataW H} {l : List (DataW H)} (h : d ∈ l) : Rows.uptoBulk d ≤ Rows.uptoBulkAll l := by
  induction l with
  | nil => cases h
  | cons x r ih =>
    simp only [Rows.uptoBulkAll]
    cases List.mem_cons.1 h with
    | inl e => subst e; omega
    | inr e => have := ih e; omega
theorem o_split (cs : List Value) (a n : Nat) : cs.drop a = (cs.drop a).take n ++ cs.drop (a + n) := by
  rw [← List.drop_drop, List.take_append_drop]

/-- Digests that came in. -/
theorem open_digs2 {fuel : Nat} {cs : List Value} {x : DataW H × List MemPlace} (h : DataW.trod enc Tryd.prog W 0 (fun _ => true) true fuel 41 cs = some x) (hB : Rows.uptoBulk x.1 ≤ 1048576) :
    ∃ v ds, cs = [v] ∧ RdD W v ds ∧ ds.length ≤ 1048576 := by
  rcases open_slice Tryd.underlying41 h with ⟨rfl, rfl⟩ | ⟨a, len, cap, m, n, D, Pl, rfl, _, hl, hm, hmm, rfl, hx⟩
  · exact ⟨_, [], rfl, ⟨none, 0, 0, rfl, rfl, Nat.le_refl _, by omega, fun d hd => by simp at hd, fun h => by omega⟩, by simp⟩
  · have hC : Tryd.prog.cellsOf 29 = 32 := by kernel_rfl
    rw [hC] at hx
    simp only [if_true] at hmm
    simp only [Rows.uptoBulk] at hB
    have hcap : cap ≤ 1048576 := by
      have h1 := bulk_len ((List.range len).map D)
      have h2 := bulk_len ((List.range (m - len)).map fun j => D (len + j))
      simp at h1 h2
      omega
    obtain ⟨f, hf⟩ := choose_lt (α := List Nat) (n := len) (p := fun i o => (∀ j v, (o.map u8)[j]? = some v → W.cell? ((a.add (i * 32)).add j) = some v) ∧ o.length = 32 ∧ ∀ y ∈ o, y < 256) (by
      intro i hi
      obtain ⟨cs', h1, h2⟩ := hx i (by omega)
      obtain ⟨l, rfl, hl1, hl2⟩ := open_dig h2
      obtain ⟨_, hlen, hc⟩ := World.cells?_some h1
      refine ⟨l, fun j v hv => ?_, hl1, hl2⟩
      have hj := (List.getElem?_eq_some_iff.1 hv).1
      have := hc j (by rw [List.length_map] at hj; omega)
      rw [this, ← hv, List.getElem?_eq_getElem hj])
    refine ⟨_, (List.range len).map f, rfl, ⟨some a, len, cap, rfl, by simp, hl, by omega, ?_, ?_⟩, by simp; omega⟩
    · intro d hd
      obtain ⟨i, hi, rfl⟩ := List.mem_map.1 hd
      exact (hf i (List.mem_range.1 hi)).2
    · intro hp
      obtain ⟨b, off, spot⟩ := a
      have h0 := hf 0 hp
      have hc0 := h0.1 0 (u8 ((f 0).getD 0 0)) (by rw [List.getElem?_map, List.getD_eq_getElem?_getD, List.getElem?_eq_getElem (by omega)]; rfl)
      have hspot : spot = none := by simpa [Addr.add] using World.cell?_spot hc0
      subst hspot
      refine ⟨b, off, rfl, fun i hi j v hv => ?_⟩
      have e9 : ((List.range len).map f).getD i [] = f i := by simp [List.getD_eq_getElem?_getD, hi]
      rw [e9] at hv
      have := (hf i hi).1 j v hv
      rw [Addr.add_mid, Addr.add_mid] at this
      exact this

theorem k_flat_bulk (f : Nat → List Nat × List Nat) (D0 D1 : Nat → DataW H) (l : List Nat) (h : ∀ i ∈ l, (f i).1.length + 1 ≤ Rows.uptoBulk (D0 i) ∧ (f i).2.length + 1 ≤ Rows.uptoBulk (D1 i)) : kwt (l.map f) ≤ Rows.uptoBulkAll (l.map fun i => .agg [D0 i, D1 i]) := by
  induction l with
  | nil => simp [kwt]
  | cons a l ih =>
    have h1 := h a (by simp)
    have h2 := ih (fun i hi => h i (by simp [hi]))
    simp only [kwt, List.map_cons, List.sum_cons, Rows.uptoBulkAll, Rows.uptoBulk] at h2 ⊢
    omega
/-- Pairs that came in. -/
theorem open_pairs {fuel : Nat} {cs : List Value} {x : DataW H × List MemPlace} (h : DataW.trod enc Tryd.prog W 0 (fun _ => true) true fuel 24 cs = some x) (hB : Rows.uptoBulk x.1 ≤ 1048576) :
    ∃ v ps, cs = [v] ∧ RdK W v ps ∧ kwt ps ≤ 1048576 := by
  rcases open_slice_pairs Tryd.underlying24 Tryd.underlying64 (by kernel_rfl) rfl rfl (by kernel_rfl) (by kernel_rfl) h with ⟨rfl, rfl⟩ | ⟨a, len, cap, m, n, V0, V1, D0, D1, P0, P1, rfl, _, hl, hm, hmm, rfl, hx⟩
  · exact ⟨_, [], rfl, ⟨none, 0, 0, [], [], rfl, rfl, Nat.le_refl _, by omega, fun i h => by omega, fun h => by omega⟩, by simp [kwt]⟩
  · simp only [if_true] at hmm
    simp only [Rows.uptoBulk] at hB
    obtain ⟨f, hf⟩ := choose_lt (α := List Nat × List Nat) (n := len) (p := fun i o => (Rd W (V0 i) o.1 ∧ Rd W (V1 i) o.2) ∧ o.1.length + 1 ≤ Rows.uptoBulk (D0 i) ∧ o.2.length + 1 ≤ Rows.uptoBulk (D1 i)) (by
      intro i hi
      obtain ⟨_, _, h0, h1⟩ := hx i (by omega)
      have hDi : Rows.uptoBulk (.agg [D0 i, D1 i]) ≤ Rows.uptoBulkAll ((List.range len).map fun i => .agg [D0 i, D1 i]) := o_bulk_part (List.mem_map.2 ⟨i, List.mem_range.2 hi, rfl⟩)
      simp only [Rows.uptoBulk, Rows.uptoBulkAll] at hDi
      obtain ⟨v, bs, e0, hr0, hb0⟩ := open_bytes h0
      obtain ⟨v', bs', e1, hr1, hb1⟩ := open_bytes h1
      simp only [List.cons.injEq, and_true] at e0 e1
      subst e0
      subst e1
      have g0 := bulk_bytes hb0
      have g1 := bulk_bytes hb1
      exact ⟨(bs, bs'), ⟨hr0 (by simp only at g0; omega), hr1 (by simp only at g1; omega)⟩, g0, g1⟩)
    refine ⟨_, (List.range len).map f, rfl, ⟨some a, len, cap, (List.range len).map V0, (List.range len).map V1, rfl, by simp, hl, by unfold maxLen at hm; omega, ?_, ?_⟩, ?_⟩
    · intro i hi
      have hc := (hf i hi).1
      simpa [List.getD_eq_getElem?_getD, hi] using hc
    · intro hp
      obtain ⟨b, off, spot⟩ := a
      have hc0 := (hx 0 (by omega)).1
      have hspot : spot = none := by simpa [Addr.add] using World.cell?_spot hc0
      subst hspot
      refine ⟨b, off, rfl, fun i hi => ?_⟩
      have hc := hx i (by omega)
      rw [Addr.add_mid, Addr.add_mid] at hc
      have := And.intro hc.1 hc.2.1
      simpa [List.getD_eq_getElem?_getD, hi, Nat.add_assoc] using this
    · have := k_flat_bulk f D0 D1 (List.range len) (fun i hi => (hf i (List.mem_range.1 hi)).2)
      omega
theorem pairB_kwt (ps : List (List Nat × List Nat)) (h : kwt ps ≤ 1048576) : (pairB ps).length ≤ 10 * kwt ps := by
  induction ps with
  | nil => simp [pairB]
  | cons x r ih =>
    have e : pairB (x :: r) = uv x.1.length ++ x.1 ++ (uv x.2.length ++ x.2) ++ pairB r := by simp [pairB]
    have ek : kwt (x :: r) = x.1.length + x.2.length + 2 + kwt r := by simp [kwt]
    have h1 := ih (by omega)
    have u1 := uv_len x.1.length (by omega)
    have u2 := uv_len x.2.length (by omega)
    rw [e, ek]
    simp only [List.length_append]
    omega


theorem OkP.pl {w : World} {ss : List (Nat × List (List Nat))} {ps : List (List Nat × List Nat)} {sv pv : Value} (h : OkP w ss ps sv pv) : ps.length ≤ 1048576 := by have := kwt_len ps; have := h.pw; omega
theorem OkP.pb {w : World} {ss : List (Nat × List (List Nat))} {ps : List (List Nat × List Nat)} {sv pv : Value} (h : OkP w ss ps sv pv) : (pairB ps).length ≤ 1000000000000 := by have := pairB_kwt ps h.pw; have := h.pw; omega

/-- Steps that came in. -/
theorem open_steps {fuel : Nat} {cs : List Value} {x : DataW H × List MemPlace} (h : DataW.trod enc Tryd.prog W 0 (fun _ => true) true fuel 23 cs = some x) (hB : Rows.uptoBulk x.1 ≤ 1048576) :
    ∃ v ss, cs = [v] ∧ RdS W v ss ∧ ss.length ≤ 1048576 ∧ ∀ s ∈ ss, s.2.length ≤ 1048576 := by
  rcases open_slice_pairs Tryd.underlying23 Tryd.underlying43 (by kernel_rfl) rfl rfl (by kernel_rfl) (by kernel_rfl) h with ⟨rfl, rfl⟩ | ⟨a, len, cap, m, n, V0, V1, D0, D1, P0, P1, rfl, _, hl, hm, hmm, rfl, hx⟩
  · exact ⟨_, [], rfl, ⟨none, 0, 0, [], rfl, rfl, Nat.le_refl _, by omega, fun i h => by omega, fun h => by omega⟩, by simp, by simp⟩
  · simp only [if_true] at hmm
    simp only [Rows.uptoBulk] at hB
    have hlen : len ≤ 1048576 := by
      have h1 := bulk_len ((List.range len).map fun i => DataW.agg [D0 i, D1 i])
      simp at h1
      omega
    obtain ⟨f, hf⟩ := choose_lt (α := Nat × List (List Nat)) (n := len) (p := fun i o => V0 i = .int .u16 (o.1 : Int) ∧ o.1 < 65536 ∧ RdD W (V1 i) o.2 ∧ o.2.length ≤ 1048576) (by
      intro i hi
      obtain ⟨_, _, h0, h1⟩ := hx i (by omega)
      have hDi : Rows.uptoBulk (.agg [D0 i, D1 i]) ≤ Rows.uptoBulkAll ((List.range len).map fun i => .agg [D0 i, D1 i]) := o_bulk_part (List.mem_map.2 ⟨i, List.mem_range.2 hi, rfl⟩)
      simp only [Rows.uptoBulk, Rows.uptoBulkAll] at hDi
      obtain ⟨b, e0, _, w0⟩ := DataW.trod_int Tryd.underlying40 h0
      obtain ⟨v', ds, e1, hr1, hb1⟩ := open_digs2 h1 (by show Rows.uptoBulk (D1 i) ≤ _; omega)
      simp only [List.cons.injEq, and_true] at e0 e1
      have hb : 0 ≤ b ∧ b < 65536 := by
        simp [Lit.wf, IntKind.min, IntKind.max, IntKind.signed, IntKind.bits] at w0
        omega
      subst e1
      exact ⟨(b.toNat, ds), by rw [e0, Int.toNat_of_nonneg hb.1], by show b.toNat < 65536; omega, hr1, hb1⟩)
    refine ⟨_, (List.range len).map f, rfl, ⟨some a, len, cap, (List.range len).map V1, rfl, by simp, hl, by unfold maxLen at hm; omega, ?_, ?_⟩, by simpa using hlen, ?_⟩
    · intro i hi
      have hc := hf i hi
      have := And.intro hc.2.1 hc.2.2.1
      simpa [List.getD_eq_getElem?_getD, hi] using this
    · intro hp
      obtain ⟨b, off, spot⟩ := a
      have hc0 := (hx 0 (by omega)).1
      have hspot : spot = none := by simpa [Addr.add] using World.cell?_spot hc0
      subst hspot
      refine ⟨b, off, rfl, fun i hi => ?_⟩
      have hc := hx i (by omega)
      rw [Addr.add_mid, Addr.add_mid, (hf i hi).1] at hc
      have := And.intro hc.1 hc.2.1
      simpa [List.getD_eq_getElem?_getD, hi, Nat.add_assoc] using this
    · intro s hs
      obtain ⟨i, hi, rfl⟩ := List.mem_map.1 hs
      exact (hf i (List.mem_range.1 hi)).2.2.2

/-- A path that came in. -/
theorem open_path {fuel : Nat} {cs : List Value} {x : DataW H × List MemPlace} (h : DataW.trod enc Tryd.prog W 0 (fun _ => true) true fuel 26 cs = some x) (hB : Rows.uptoBulk x.1 ≤ 1048576) :
    ∃ ss ps sv pv, cs = [sv, pv] ∧ OkP W ss ps sv pv := by
  obtain ⟨xs, n, _, rfl, hl, hlen, hf⟩ := DataW.trod_struct Tryd.underlying26 h
  rw [show Tryd.prog.cellsOf 26 = 2 from by kernel_rfl] at hl
  match xs, hlen with
  | [y0, y1], _ =>
    have c0 : Tryd.prog.cellsOf 23 = 1 := by kernel_rfl
    have c1 : Tryd.prog.cellsOf 24 = 1 := by kernel_rfl
    have f0 : DataW.trod enc Tryd.prog W 0 (fun _ => true) true n 23 ((cs.drop 0).take 1) = some y0 := by have this : DataW.trod enc Tryd.prog W 0 (fun _ => true) true n 23 ((cs.drop 0).take (Tryd.prog.cellsOf 23)) = some y0 := hf 0 _ rfl; rw [c0] at this; exact this
    have f1 : DataW.trod enc Tryd.prog W 0 (fun _ => true) true n 24 ((cs.drop 1).take 1) = some y1 := by have this : DataW.trod enc Tryd.prog W 0 (fun _ => true) true n 24 ((cs.drop 1).take (Tryd.prog.cellsOf 24)) = some y1 := hf 1 _ rfl; rw [c1] at this; exact this
    simp only [List.map_cons, List.map_nil, Rows.uptoBulk, Rows.uptoBulkAll] at hB
    obtain ⟨sv, ss, e0, hs, hsl, hkl⟩ := open_steps f0 (by omega)
    obtain ⟨pv, ps, e1, hp, hpw⟩ := open_pairs f1 (by omega)
    refine ⟨ss, ps, sv, pv, ?_, ⟨hs, hp, hsl, hkl, hpw⟩⟩
    have hd : cs.drop 2 = [] := List.drop_eq_nil_of_le (by omega)
    have this := o_split cs 0 1
    rw [e0, o_split cs 1 1, e1, hd, List.drop_zero] at this
    rw [this]; rfl

/-- A question that came in. -/
theorem open_askh {fuel : Nat} {cs : List Value} {x : DataW H × List MemPlace} (h : DataW.trod enc Tryd.prog W 0 (fun _ => true) true fuel 39 cs = some x) (hB : Rows.uptoBulk x.1 ≤ 1048576) :
    ∃ (q : AskH) (kv sv pv : Value), cs = askH q kv sv pv ∧ OkH W q kv sv pv := by
  obtain ⟨xs, n, _, rfl, hl, hlen, hf⟩ := DataW.trod_struct Tryd.underlying39 h
  rw [show Tryd.prog.cellsOf 39 = 36 from by kernel_rfl] at hl
  match xs, hlen with
  | [y0, y1, y2, y3], _ =>
    have c3 : Tryd.prog.cellsOf 3 = 1 := by kernel_rfl
    have cb : Tryd.prog.cellsOf 22 = 1 := by kernel_rfl
    have ck : Tryd.prog.cellsOf 26 = 2 := by kernel_rfl
    have cd : Tryd.prog.cellsOf 29 = 32 := by kernel_rfl
    have f0 : DataW.trod enc Tryd.prog W 0 (fun _ => true) true n 3 ((cs.drop 0).take 1) = some y0 := by have this : DataW.trod enc Tryd.prog W 0 (fun _ => true) true n 3 ((cs.drop 0).take (Tryd.prog.cellsOf 3)) = some y0 := hf 0 _ rfl; rw [c3] at this; exact this
    have f1 : DataW.trod enc Tryd.prog W 0 (fun _ => true) true n 22 ((cs.drop 1).take 1) = some y1 := by have this : DataW.trod enc Tryd.prog W 0 (fun _ => true) true n 22 ((cs.drop 1).take (Tryd.prog.cellsOf 22)) = some y1 := hf 1 _ rfl; rw [cb] at this; exact this
    have f2 : DataW.trod enc Tryd.prog W 0 (fun _ => true) true n 26 ((cs.drop 2).take 2) = some y2 := by have this : DataW.trod enc Tryd.prog W 0 (fun _ => true) true n 26 ((cs.drop 2).take (Tryd.prog.cellsOf 26)) = some y2 := hf 2 _ rfl; rw [ck] at this; exact this
    have f3 : DataW.trod enc Tryd.prog W 0 (fun _ => true) true n 29 ((cs.drop 4).take 32) = some y3 := by have this : DataW.trod enc Tryd.prog W 0 (fun _ => true) true n 29 ((cs.drop 4).take (Tryd.prog.cellsOf 29)) = some y3 := hf 3 _ rfl; rw [cd] at this; exact this
    simp only [List.map_cons, List.map_nil, Rows.uptoBulk, Rows.uptoBulkAll] at hB
    obtain ⟨z, e0, _, w0⟩ := DataW.trod_int Tryd.underlying3 f0
    obtain ⟨kv, bs, e1, hr1, hb1⟩ := open_bytes f1
    have g1 := bulk_bytes hb1
    obtain ⟨ss, ps, sv, pv, e2, hP⟩ := open_path f2 (by omega)
    obtain ⟨r, e3, r1, r2⟩ := open_dig f3
    refine ⟨⟨z, bs, ss, ps, r⟩, kv, sv, pv, ?_, ⟨int_of_wf w0, hr1 (by omega), by show bs.length ≤ _; omega, hP, ⟨r1, r2⟩⟩⟩
    have hd : cs.drop 36 = [] := List.drop_eq_nil_of_le (by omega)
    have this := o_split cs 0 1
    rw [e0, o_split cs 1 1, e1, o_split cs 2 2, e2, o_split cs 4 32, e3, hd, List.drop_zero] at this
    rw [this]
    simp [askH]

set_option maxRecDepth 100000 in
theorem open_askhv {b0 : Nat} {v : Value} {d : DataW H} {ps : List MemPlace} (hv : Value.okWide Tryd.prog W .any b0 39 v) (h : DataW.Trod enc Tryd.prog W 0 (fun _ => true) true 39 v d ps) (hB : Rows.uptoBulk d ≤ 1048576) :
    ∃ (q : AskH) (kv sv pv : Value), v = .agg (askH q kv sv pv).toArray ∧ OkH W q kv sv pv := by
  unfold Value.okWide at hv
  rw [Tryd.underlying39] at hv
  obtain ⟨cs, rfl, _, _⟩ := hv
  obtain ⟨fuel, hf⟩ := h
  obtain ⟨q, kv, sv, pv, e, h1⟩ := open_askh hf hB
  refine ⟨q, kv, sv, pv, ?_, h1⟩
  simp only [Value.cells] at e
  rw [← e]

set_option maxRecDepth 100000 in
theorem open_pathv {b0 : Nat} {v : Value} {d : DataW H} {ps : List MemPlace} (hv : Value.okWide Tryd.prog W .any b0 26 v) (h : DataW.Trod enc Tryd.prog W 0 (fun _ => true) true 26 v d ps) (hB : Rows.uptoBulk d ≤ 1048576) :
    ∃ ss ps sv pv, v = .agg #[sv, pv] ∧ OkP W ss ps sv pv := by
  unfold Value.okWide at hv
  rw [Tryd.underlying26] at hv
  obtain ⟨cs, rfl, _, _⟩ := hv
  obtain ⟨fuel, hf⟩ := h
  obtain ⟨ss, ps, sv, pv, e, h1⟩ := open_path hf hB
  refine ⟨ss, ps, sv, pv, ?_, h1⟩
  simp only [Value.cells] at e
  have := congrArg List.toArray e
  simp only [Array.toArray_toList] at this
  rw [this]
end
end Go.Proofs.YtjafmnemobcipaaDoor
namespace Go.Proofs.YtjafmnemobcipaaDoor
open Go.RowKit Go.BigFrame
set_option linter.unusedVariables false
set_option linter.unusedSimpArgs false

theorem h_mid {w : World} {g n : Nat} {t : TypeId} {fr : Nat × Nat} (a b c : List Value) (h : w.heap[g]? = some (.cells (a ++ (b ++ c)).toArray t fr)) (hn : a.length = n) : w.rangeAt g n b := by
  subst hn
  intro j v hv
  have hj := (List.getElem?_eq_some_iff.1 hv).1
  rw [cell_of_row w g _ _ t fr h, List.getElem?_toArray, List.getElem?_append_right (by omega), Nat.add_sub_cancel_left, List.getElem?_append_left hj, hv]
theorem askH_cells {w : World} {g : Nat} {t : TypeId} {fr : Nat × Nat} {q : AskH} {kv sv pv : Value} (h : w.heap[g]? = some (.cells (askH q kv sv pv).toArray t fr)) :
    w.cell? ⟨g, 0, none⟩ = some (.int .i64 q.z) ∧ w.cell? ⟨g, 1, none⟩ = some kv ∧ w.cell? ⟨g, 2, none⟩ = some sv ∧ w.cell? ⟨g, 3, none⟩ = some pv ∧ w.rangeAt g 4 (q.r.map u8) := by
  unfold askH at h
  have h4 := h_mid (n := 4) [.int .i64 q.z, kv, sv, pv] (q.r.map u8) [] (by simpa using h) rfl
  have c : ∀ j v, ([.int .i64 q.z, kv, sv, pv] : List Value)[j]? = some v → w.cell? ⟨g, j, none⟩ = some v := by
    intro j v hv
    rw [cell_of_row w g _ _ t fr h, List.getElem?_toArray, List.getElem?_append_left (List.getElem?_eq_some_iff.1 hv).1, hv]
  exact ⟨c 0 _ rfl, c 1 _ rfl, c 2 _ rfl, c 3 _ rfl, h4⟩

theorem wpList_load_midG {P : Program} {ops : Array Oper} {rest : List Oper} {op : Oper} {a : Act} {w : World} {Q : Exit → Act → World → Prop} (hw : Region.wanted op (yielded ops a.tmps) = true) (ty : TypeId) (x : Operand) (ho : op.op = .load ty x)
    (b o : Nat) (hx : a.eval x = .pointer (some ⟨b, o, none⟩)) (cs : List Value) (d : TypeDesc) (hc : w.rangeAt b o cs)
    (hu : P.underlying ty = some d) (hd : d.isRow = true) (hi : (P.info? ty).map (·.size) = some cs.length)
    (h : wpList P ops Q rest (a.put op.dst (.agg cs.toArray)) w) : wpList P ops Q (op :: rest) a w :=
  wpList_want hw fun _ hK => wp_load_mid ty x ho b o hx cs d hc hu hd hi (hK _ _ h)

theorem Tryd.size_askh : (Tryd.prog.info? 39).map (·.size) = some 36 := by kernel_rfl
theorem OkP.s9 {w : World} {ss : List (Nat × List (List Nat))} {ps : List (List Nat × List Nat)} {sv pv : Value} (h : OkP w ss ps sv pv) : ss.length ≤ 1000000000000 := by have := h.sl; omega
theorem OkP.p9 {w : World} {ss : List (Nat × List (List Nat))} {ps : List (List Nat × List Nat)} {sv pv : Value} (h : OkP w ss ps sv pv) : ps.length ≤ 1000000000000 := by have := h.pl; omega
theorem OkP.k9 {w : World} {ss : List (Nat × List (List Nat))} {ps : List (List Nat × List Nat)} {sv pv : Value} (h : OkP w ss ps sv pv) : ∀ s ∈ ss, s.2.length ≤ 1000000000 := fun s hs => by have := h.kl s hs; omega
end Go.Proofs.YtjafmnemobcipaaDoor
namespace Go.Proofs.YtjafmnemobcipaaDoor
open Go.RowKit Go.BigFrame
set_option linter.unusedVariables false
set_option linter.unusedSimpArgs false

theorem fitS_len {b n : Nat} {c : Int} {t : Bool} (h : fitS b n c t = true) : n ≤ 16 ∧ (t = true → n ≤ 15) ∧ cnt b 16 = n + (if t then 1 else 0) ∧ b ≠ 0 := by
  unfold fitS at h
  simp only [Bool.and_eq_true, decide_eq_true_eq] at h
  have h9 := cnt_le b 16
  refine ⟨?_, fun ht => ?_, h.2.2, h.1⟩
  · have := h.2.2; split at this <;> omega
  · have := h.2.2; rw [ht] at this; simp at this; omega
theorem prov_lens {z : Int} {ks : List Nat} {ss : List (Nat × List (List Nat))} {ps : List (List Nat × List Nat)} (h : provB z ks ss ps = true) : (∀ s ∈ ss, s.2.length ≤ 16) ∧ (∀ i, i < footN ss ps → (ss.getD i (0, [])).2.length ≤ 15) ∧ ss.length ≤ 2 * z.toNat := by
  unfold provB at h
  simp only [Bool.and_eq_true, decide_eq_true_eq] at h
  have hf := fitsB_at ss.length h.2.1
  refine ⟨fun s hs => ?_, fun i hi => ?_, h.1⟩
  · obtain ⟨i, hi, rfl⟩ := List.getElem_of_mem hs
    have h9 := (fitS_len (hf i hi)).1
    rw [List.getD_eq_getElem?_getD, List.getElem?_eq_getElem hi] at h9
    exact h9
  · unfold footN at hi
    have hi2 : i < ss.length := by split at hi <;> omega
    refine (fitS_len (hf i hi2)).2.1 ?_
    split at hi
    · simp; omega
    · simp; omega
theorem ones_cnt {x : Nat} (hx : x < 65536) : ones x = cnt x 16 := by
  have h : ∀ y, y < 256 → ones y = cnt y 8 := fun y hy => by
    have h1 : Lib.pop8 (y : Int) = (ones y : Int) := Lib.pop8_eq ⟨y, hy⟩
    rw [pop8_cnt hy] at h1; omega
  rw [ones_split x hx, cnt_split, h _ (by omega), h _ (by omega)]
theorem hfE_form {z : Int} {key : List Nat} {ss : List (Nat × List (List Nat))} (h : hfE z key [] ss = 0) : ∀ s ∈ ss, ∀ d ∈ s.2, formB z d = true := by
  obtain ⟨h1, h2⟩ := hfE_zero h
  unfold hfE at h
  rw [if_neg (by simp [h1]), if_neg (by omega)] at h
  have h3 : ss.all (fun s => s.2.all (formB z)) = true := by
    by_cases h9 : ss.all (fun s => s.2.all (formB z)) = true
    · exact h9
    · rw [if_neg (by simpa using h9)] at h; omega
  intro s hs d hd
  exact List.all_eq_true.1 (List.all_eq_true.1 h3 s hs) d hd
theorem branch_zero {k : Nat} (hk : 1 ≤ k ∧ k ≤ 32) {b : Nat} (hb : b < 65536) {M : List (List Nat)} (hM : ∀ d ∈ M, formB (k : Int) d = true) (h0 : b ≠ 0) (hc : cnt b 16 = M.length) : branchE (k : Int) b M = 0 := by
  have hw : widthB (k : Int) = true := by simp [widthB]; omega
  have h1 : formedE (k : Int) M = 0 := by
    unfold formedE
    rw [if_neg (by simp [hw]), if_pos (List.all_eq_true.2 hM)]
  unfold branchE
  rw [if_pos h1, ones_cnt hb, hc, if_neg (by simp [h0])]
end Go.Proofs.YtjafmnemobcipaaDoor
namespace Go.Proofs.YtjafmnemobcipaaDoor
open Go.RowKit Go.BigFrame
set_option linter.unusedVariables false
set_option linter.unusedSimpArgs false

theorem RdD.digs {w : World} {v : Value} {ds : List (List Nat)} (h : RdD w v ds) : ∀ d ∈ ds, d.length = 32 ∧ ∀ x ∈ d, x < 256 := by
  obtain ⟨_, _, _, _, _, _, _, h4, _⟩ := h; exact h4
theorem uv_pre : ∀ (a b : Nat) (x y : List Nat), uv a ++ x = uv b ++ y → a = b ∧ x = y := by
  intro a
  induction a using Nat.strongRecOn with
  | _ a ih =>
    intro b x y h
    by_cases ha : a < 128
    · by_cases hb : b < 128
      · rw [uv_lt ha, uv_lt hb] at h
        simpa using h
      · rw [uv_lt ha, uv_ge (by omega : 128 ≤ b)] at h
        simp at h
        omega
    · by_cases hb : b < 128
      · rw [uv_ge (by omega : 128 ≤ a), uv_lt hb] at h
        simp at h
        omega
      · rw [uv_ge (by omega : 128 ≤ a), uv_ge (by omega : 128 ≤ b)] at h
        simp only [List.cons_append, List.cons.injEq] at h
        obtain ⟨h1, h2⟩ := h
        obtain ⟨h3, h4⟩ := ih (a / 128) (by omega) (b / 128) x y h2
        exact ⟨by omega, h4⟩
theorem blob_pre (p q x y : List Nat) (h : uv p.length ++ (p ++ x) = uv q.length ++ (q ++ y)) : p = q ∧ x = y := by
  obtain ⟨h1, h2⟩ := uv_pre _ _ _ _ h
  exact List.append_inj h2 h1
theorem pairB_inj : ∀ (ps qs : List (List Nat × List Nat)), ps.length = qs.length → pairB ps = pairB qs → ps = qs := by
  intro ps
  induction ps with
  | nil => intro qs hl _; exact (List.eq_nil_of_length_eq_zero hl.symm).symm
  | cons a ps ih =>
    intro qs hl h
    cases qs with
    | nil => simp at hl
    | cons b qs =>
      have e : ∀ (c : List Nat × List Nat) cs, pairB (c :: cs) = uv c.1.length ++ (c.1 ++ (uv c.2.length ++ (c.2 ++ pairB cs))) := by
        intro c cs; simp [pairB]
      rw [e, e] at h
      obtain ⟨h1, h2⟩ := blob_pre _ _ _ _ h
      obtain ⟨h3, h4⟩ := blob_pre _ _ _ _ h2
      rw [ih qs (by simpa using hl) h4, Prod.ext h1 h3]
theorem buckB_inj (ps qs : List (List Nat × List Nat)) : buckB ps = buckB qs ↔ ps = qs := by
  constructor
  · intro h
    unfold buckB at h
    simp only [List.cons.injEq, true_and] at h
    obtain ⟨h1, h2⟩ := uv_pre _ _ _ _ h
    exact pairB_inj _ _ h1 h2
  · rintro rfl; rfl
theorem wideInj (n : Nat) : ∀ A B, A / 256 ^ n = B / 256 ^ n → wide A n = wide B n → A = B := by
  induction n with
  | zero => intro A B h _; simpa using h
  | succ n ih =>
    intro A B h hw
    simp only [wide, List.cons.injEq] at hw
    refine ih A B ?_ hw.2
    rw [Nat.pow_succ, ← Nat.div_div_eq_div_mul, ← Nat.div_div_eq_div_mul] at h
    have := hw.1
    omega
theorem form_take {z : Int} {l m : List Nat} (hl : formB z l = true) (hm : formB z m = true) (h : l.take z.toNat = m.take z.toNat) : l = m := by
  unfold formB at hl hm
  simp only [Bool.and_eq_true, decide_eq_true_eq] at hl hm
  rw [← hl.2, ← hm.2]
  unfold cutL
  rw [h]
theorem formedE_zero {z : Int} {ds : List (List Nat)} (h : formedE z ds = 0) : widthB z = true ∧ ∀ d ∈ ds, formB z d = true := by
  unfold formedE at h
  cases hw : widthB z with
  | false => rw [hw] at h; simp at h
  | true =>
    rw [hw] at h
    simp only [reduceIte, Bool.true_eq_false] at h
    by_cases ha : ds.all (formB z) = true
    · exact ⟨rfl, fun d hd => List.all_eq_true.1 ha d hd⟩
    · rw [if_neg ha] at h; omega
theorem two_takes {k : Nat} {l m l' m' : List Nat} (h1 : l.length = 32) (h2 : m.length = 32) (h3 : l'.length = 32) (h4 : m'.length = 32) (h : l.take k ++ m.take k = l'.take k ++ m'.take k) : l.take k = l'.take k ∧ m.take k = m'.take k :=
  List.append_inj h (by simp [h1, h3])
theorem kidsB_inj {z : Int} : ∀ (ds es : List (List Nat)), ds.length = es.length → (∀ d ∈ ds, d.length = 32) → (∀ d ∈ es, d.length = 32) → (∀ d ∈ ds, formB z d = true) → (∀ d ∈ es, formB z d = true) → kidsB z.toNat ds = kidsB z.toNat es → ds = es := by
  intro ds
  induction ds with
  | nil => intro es hl _ _ _ _ _; exact (List.eq_nil_of_length_eq_zero hl.symm).symm
  | cons a ds ih =>
    intro es hl l1 l2 f1 f2 h
    cases es with
    | nil => simp at hl
    | cons b es =>
      have e : ∀ (c : List Nat) cs, kidsB z.toNat (c :: cs) = c.take z.toNat ++ kidsB z.toNat cs := by intro c cs; simp [kidsB]
      rw [e, e] at h
      obtain ⟨h1, h2⟩ := List.append_inj h (by simp [l1 a (by simp), l2 b (by simp)])
      rw [ih es (by simpa using hl) (fun d hd => l1 d (by simp [hd])) (fun d hd => l2 d (by simp [hd])) (fun d hd => f1 d (by simp [hd])) (fun d hd => f2 d (by simp [hd])) h2,
        form_take (f1 a (by simp)) (f2 b (by simp)) h1]
theorem branchE_zero {z : Int} {x : Nat} {ds : List (List Nat)} (h : branchE z x ds = 0) : formedE z ds = 0 ∧ x ≠ 0 ∧ ones x = ds.length := by
  unfold branchE at h
  by_cases hf : formedE z ds = 0
  · rw [if_pos hf] at h
    by_cases hx : x = 0 ∨ ones x ≠ ds.length
    · rw [if_pos hx] at h; omega
    · refine ⟨hf, fun h9 => hx (Or.inl h9), ?_⟩
      by_cases h7 : ones x = ds.length
      · exact h7
      · exact absurd (Or.inr h7) hx
  · rw [if_neg hf] at h; exact absurd h hf
end Go.Proofs.YtjafmnemobcipaaDoor
namespace Go.Proofs.YtjafmnemobcipaaDoor
open Go.RowKit Go.BigFrame
set_option linter.unusedVariables false
set_option linter.unusedSimpArgs false

/-- The lowest input of a path. -/
def lowB (z : Int) (ss : List (Nat × List (List Nat))) (ps : List (List Nat × List Nat)) : List Nat :=
  if 0 < ps.length then buckB ps else if ss.length = 0 then [5] else branchB z (ss.getD (ss.length - 1) (0, [])).1 (ss.getD (ss.length - 1) (0, [])).2
/-- The children of the step k, with a digest at the child to which the path goes. -/
def stK (z : Int) (ks : List Nat) (ss : List (Nat × List (List Nat))) (k : Nat) (d : List Nat) : List (List Nat) :=
  (ss.getD k (0, [])).2.take (rankB (ss.getD k (0, [])).1 (atC z ks k)) ++ d :: (ss.getD k (0, [])).2.drop (rankB (ss.getD k (0, [])).1 (atC z ks k))
def stB (z : Int) (ks : List Nat) (ss : List (Nat × List (List Nat))) (k : Nat) (d : List Nat) : List Nat := branchB z (ss.getD k (0, [])).1 (stK z ks ss k d)
/-- The inputs from the root down. -/
def inpD (z : Int) (ks : List Nat) (ss : List (Nat × List (List Nat))) : Nat → List Nat → List (List Nat)
  | 0, low => [low]
  | n + 1, low => inpD z ks ss n (stB z ks ss n (sumD z low)) ++ [low]
def inpA (z : Int) (key : List Nat) (ss : List (Nat × List (List Nat))) (ps : List (List Nat × List Nat)) : List (List Nat) := inpD z (keyS z key) ss (footN ss ps) (lowB z ss ps)
/-- What clash answers. -/
def clF (z : Int) : List (List Nat) → List (List Nat) → Bool
  | a :: A, b :: B => if a = b then clF z A B else decide (sumD z a = sumD z b)
  | _, _ => false
theorem clF_at (z : Int) : ∀ (A B : List (List Nat)) (i : Nat), (∀ j, j < i → A.getD j [] = B.getD j []) → i < A.length → i < B.length → A.getD i [] ≠ B.getD i [] → clF z A B = decide (sumD z (A.getD i []) = sumD z (B.getD i []))
  | [], _, i, _, h, _, _ => by simp at h
  | _ :: _, [], i, _, _, h, _ => by simp at h
  | a :: A, b :: B, 0, _, _, _, hne => by
    rw [clF, if_neg (by simpa using hne)]; simp
  | a :: A, b :: B, i + 1, hs, h1, h2, hne => by
    have h0 := hs 0 (by omega)
    simp at h0
    rw [clF, if_pos h0]
    have ih := clF_at z A B i (fun j hj => by have := hs (j + 1) (by omega); simpa using this) (by simpa using h1) (by simpa using h2) (by simpa using hne)
    rw [ih]; simp
theorem clF_end (z : Int) : ∀ (A B : List (List Nat)), (∀ j, j < A.length → j < B.length → A.getD j [] = B.getD j []) → clF z A B = false
  | [], _, _ => by simp [clF]
  | _ :: _, [], _ => by simp [clF]
  | a :: A, b :: B, hs => by
    have h0 := hs 0 (by simp) (by simp)
    simp at h0
    rw [clF, if_pos h0]
    exact clF_end z A B (fun j h1 h2 => by have := hs (j + 1) (by simpa using h1) (by simpa using h2); simpa using this)

theorem inpD_len (z : Int) (ks : List Nat) (ss : List (Nat × List (List Nat))) : ∀ (n : Nat) (low : List Nat), (inpD z ks ss n low).length = n + 1
  | 0, _ => rfl
  | n + 1, low => by rw [inpD, List.length_append, inpD_len z ks ss n]; simp
theorem inpD_last (z : Int) (ks : List Nat) (ss : List (Nat × List (List Nat))) (n : Nat) (low : List Nat) : (inpD z ks ss n low).getD n [] = low := by
  cases n with
  | zero => rfl
  | succ n => rw [inpD, List.getD_eq_getElem?_getD, List.getElem?_append_right (by rw [inpD_len]; omega), inpD_len]; simp
theorem inpD_at (z : Int) (ks : List Nat) (ss : List (Nat × List (List Nat))) : ∀ (n : Nat) (low : List Nat) (i : Nat), i < n → (inpD z ks ss n low).getD i [] = stB z ks ss i (sumD z ((inpD z ks ss n low).getD (i + 1) []))
  | 0, _, i, h => by omega
  | n + 1, low, i, h => by
    have e : ∀ j, j < n + 1 → (inpD z ks ss (n + 1) low).getD j [] = (inpD z ks ss n (stB z ks ss n (sumD z low))).getD j [] := fun j hj => by
      rw [inpD, List.getD_eq_getElem?_getD, List.getElem?_append_left (by rw [inpD_len]; exact hj), ← List.getD_eq_getElem?_getD]
    rw [e i h]
    rcases Nat.lt_or_ge i n with h9 | h9
    · rw [e (i + 1) (by omega)]; exact inpD_at z ks ss n _ i h9
    · obtain rfl : i = n := by omega
      rw [inpD_last, inpD_last]

/-- A path that RootOf takes. -/
structure Pth (z : Int) (ks : List Nat) (ss : List (Nat × List (List Nat))) (ps : List (List Nat × List Nat)) : Prop where
  w : widthB z = true
  b : ∀ i, i < ss.length → (ss.getD i (0, [])).1 < 65536
  d : ∀ i, i < ss.length → ∀ d ∈ (ss.getD i (0, [])).2, d.length = 32 ∧ formB z d = true
  thr : ∀ i, i < footN ss ps → hasB (ss.getD i (0, [])).1 (atC z ks i) = true ∧ cnt (ss.getD i (0, [])).1 16 = (ss.getD i (0, [])).2.length + 1 ∧ rankB (ss.getD i (0, [])).1 (atC z ks i : Nat) ≤ (ss.getD i (0, [])).2.length
  fin : ps.length = 0 → 0 < ss.length → hasB (ss.getD (ss.length - 1) (0, [])).1 (atC z ks (ss.length - 1 : Nat)) = false ∧ cnt (ss.getD (ss.length - 1) (0, [])).1 16 = (ss.getD (ss.length - 1) (0, [])).2.length
  nz : ∀ i, i < ss.length → (ss.getD i (0, [])).1 ≠ 0
  len : ss.length ≤ 2 * z.toNat
theorem footN_le (ss : List (Nat × List (List Nat))) (ps : List (List Nat × List Nat)) : footN ss ps ≤ ss.length := by unfold footN; split <;> omega
theorem getD_mem {α : Type} (l : List α) (i : Nat) (d : α) (h : i < l.length) : l.getD i d ∈ l := by
  rw [List.getD_eq_getElem?_getD, List.getElem?_eq_getElem h]; exact List.getElem_mem _
theorem Pth.of {z : Int} {key : List Nat} {ss : List (Nat × List (List Nat))} {ps : List (List Nat × List Nat)} (h : rtE z key ss ps = 0) (hb : ∀ s ∈ ss, s.1 < 65536) (hd : ∀ s ∈ ss, ∀ d ∈ s.2, d.length = 32) : Pth z (keyS z key) ss ps := by
  obtain ⟨hf, hp⟩ := rtE_zero h
  have hw := (hfE_zero hf).1
  have hform := hfE_form hf
  obtain ⟨_, _, hl⟩ := prov_lens hp
  have hfit := prov_fit hp
  have hp2 := hp
  unfold provB at hp2
  simp only [Bool.and_eq_true, decide_eq_true_eq] at hp2
  have hfa := fitsB_at ss.length hp2.2.1
  refine ⟨hw, fun i hi => hb _ (getD_mem _ _ _ hi), fun i hi d hd' => ⟨hd _ (getD_mem _ _ _ hi) d hd', hform _ (getD_mem _ _ _ hi) d hd'⟩, fun i hi => ?_, fun h0 h1 => ?_, fun i hi => (fitS_len (hfa i hi)).2.2.2, hl⟩
  · have hi2 := footN_le ss ps
    have h9 := hfa i (by omega)
    have e1 : (decide (i + 1 < ss.length) || decide (0 < ps.length)) = true := by
      unfold footN at hi
      split at hi
      · simp; omega
      · simp; omega
    rw [e1] at h9
    refine ⟨?_, (fitS_len h9).2.2.1, hfit i hi⟩
    unfold fitS at h9
    simp only [Bool.and_eq_true, decide_eq_true_eq, beq_iff_eq] at h9
    exact h9.2.1
  · have h9 := hfa (ss.length - 1) (by omega)
    have e1 : (decide (ss.length - 1 + 1 < ss.length) || decide (0 < ps.length)) = false := by rw [decide_eq_false (by omega), decide_eq_false (by omega)]; rfl
    rw [e1] at h9
    refine ⟨?_, by have h7 := (fitS_len h9).2.2.1; rw [if_neg (by decide)] at h7; exact h7⟩
    unfold fitS at h9
    simp only [Bool.and_eq_true, decide_eq_true_eq, beq_iff_eq] at h9
    exact h9.2.1
theorem branchB_inj {z : Int} {x y : Nat} {ds es : List (List Nat)} (hx : x < 65536) (hy : y < 65536) (hl : cnt x 16 = ds.length) (hm : cnt y 16 = es.length) (l1 : ∀ d ∈ ds, d.length = 32 ∧ formB z d = true) (l2 : ∀ d ∈ es, d.length = 32 ∧ formB z d = true) (h : branchB z x ds = branchB z y es) : x = y ∧ ds = es := by
  unfold branchB at h
  simp only [List.cons.injEq, true_and] at h
  obtain ⟨h1, h2⟩ := List.append_inj h (by simp [wide])
  have hxy := wideInj 2 x y (by rw [Nat.div_eq_of_lt (by omega), Nat.div_eq_of_lt (by omega)]) h1
  subst hxy
  exact ⟨rfl, kidsB_inj ds es (by omega) (fun d hd => (l1 d hd).1) (fun d hd => (l2 d hd).1) (fun d hd => (l1 d hd).2) (fun d hd => (l2 d hd).2) h2⟩
theorem stK_len {z : Int} {ks : List Nat} {ss : List (Nat × List (List Nat))} {k : Nat} {d : List Nat} (hr : rankB (ss.getD k (0, [])).1 (atC z ks k : Nat) ≤ (ss.getD k (0, [])).2.length) : (stK z ks ss k d).length = (ss.getD k (0, [])).2.length + 1 := by
  unfold stK; simp; omega
theorem stK_ok {z : Int} {ks : List Nat} {ss : List (Nat × List (List Nat))} {ps : List (List Nat × List Nat)} (h : Pth z ks ss ps) {k : Nat} {d : List Nat} (hk : k < footN ss ps) (hd : d.length = 32 ∧ formB z d = true) : ∀ x ∈ stK z ks ss k d, x.length = 32 ∧ formB z x = true := by
  have h9 := footN_le ss ps
  intro x hx
  unfold stK at hx
  rcases List.mem_append.1 hx with h8 | h8
  · exact h.d k (by omega) x (List.mem_of_mem_take h8)
  · rcases List.mem_cons.1 h8 with rfl | h8
    · exact hd
    · exact h.d k (by omega) x (List.mem_of_mem_drop h8)
theorem sumD_ok {z : Int} (hw : widthB z = true) (p : List Nat) : (sumD z p).length = 32 ∧ formB z (sumD z p) = true := ⟨sumD_len _ _, sumD_form hw p⟩
/-- Two steps of one input: one bitmap, one child's digest, and the other digests too. -/
theorem stB_inj {z : Int} {ks : List Nat} {ss tt : List (Nat × List (List Nat))} {ps qs : List (List Nat × List Nat)} (h : Pth z ks ss ps) (g : Pth z ks tt qs) {k : Nat} (h1 : k < footN ss ps) (h2 : k < footN tt qs) {d c : List Nat} (hd : d.length = 32 ∧ formB z d = true) (hc : c.length = 32 ∧ formB z c = true) (he : stB z ks ss k d = stB z ks tt k c) :
    (ss.getD k (0, [])).1 = (tt.getD k (0, [])).1 ∧ d = c ∧ (ss.getD k (0, [])).2 = (tt.getD k (0, [])).2 := by
  have l1 := footN_le ss ps
  have l2 := footN_le tt qs
  obtain ⟨a1, a2, a3⟩ := h.thr k h1
  obtain ⟨b1, b2, b3⟩ := g.thr k h2
  unfold stB at he
  obtain ⟨hx, hl⟩ := branchB_inj (h.b k (by omega)) (g.b k (by omega)) (by rw [stK_len a3]; exact a2) (by rw [stK_len b3]; exact b2) (stK_ok h h1 hd) (stK_ok g h2 hc) he
  refine ⟨hx, ?_⟩
  unfold stK at hl
  rw [← hx] at hl
  rw [← hx] at b3
  generalize rankB (ss.getD k (0, [])).1 (atC z ks k : Nat) = r at hl a3 b3
  obtain ⟨t1, t2⟩ := List.append_inj hl (by rw [List.length_take, List.length_take]; omega)
  simp only [List.cons.injEq] at t2
  refine ⟨t2.1, ?_⟩
  rw [← List.take_append_drop r (ss.getD k (0, [])).2, t1, t2.2, List.take_append_drop]
theorem brD_eq {z : Int} {x : Nat} {ds : List (List Nat)} (hw : widthB z = true) (hx : x < 65536) (h0 : x ≠ 0) (hl : cnt x 16 = ds.length) (hd : ∀ d ∈ ds, formB z d = true) : branchE z x ds = 0 ∧ brD z x ds = sumD z (branchB z x ds) := by
  have hz := width_le hw
  obtain ⟨k, rfl⟩ : ∃ k : Nat, z = k := ⟨z.toNat, by omega⟩
  have h9 := branch_zero (k := k) (by omega) hx hd h0 hl
  exact ⟨h9, by unfold brD sunD; rw [if_pos h9]⟩
theorem foot_low {z : Int} {ks : List Nat} {ss : List (Nat × List (List Nat))} {ps : List (List Nat × List Nat)} (h : Pth z ks ss ps) : footD z ss ps = sumD z (lowB z ss ps) := by
  unfold footD lowB
  by_cases h1 : 0 < ps.length
  · rw [if_pos h1, if_pos h1]
  · rw [if_neg h1, if_neg h1]
    by_cases h2 : ss.length = 0
    · rw [if_pos h2, if_pos h2]
    · rw [if_neg h2, if_neg h2]
      exact (brD_eq h.w (h.b _ (by omega)) (h.nz _ (by omega)) (h.fin (by omega) (by omega)).2 (fun d hd => (h.d _ (by omega) d hd).2)).2
theorem st_sum {z : Int} {ks : List Nat} {ss : List (Nat × List (List Nat))} {ps : List (List Nat × List Nat)} (h : Pth z ks ss ps) {k : Nat} {d : List Nat} (hk : k < footN ss ps) (hd : d.length = 32 ∧ formB z d = true) :
    branchE z (ss.getD k (0, [])).1 (stK z ks ss k d) = 0 ∧ brD z (ss.getD k (0, [])).1 (stK z ks ss k d) = sumD z (stB z ks ss k d) := by
  have l1 := footN_le ss ps
  obtain ⟨a1, a2, a3⟩ := h.thr k hk
  exact brD_eq h.w (h.b k (by omega)) (h.nz k (by omega)) (by rw [stK_len a3]; exact a2) (fun x hx => (stK_ok h hk hd x hx).2)
theorem cli_inp {z : Int} {ks : List Nat} {ss : List (Nat × List (List Nat))} {ps : List (List Nat × List Nat)} (h : Pth z ks ss ps) : ∀ (n : Nat), n ≤ footN ss ps → ∀ low, cliD z ks ss n (sumD z low) = sumD z ((inpD z ks ss n low).getD 0 [])
  | 0, _, low => rfl
  | n + 1, hn, low => by
    rw [cliD]
    have h9 := (st_sum h (k := n) (d := sumD z low) (by omega) (sumD_ok h.w low)).2
    unfold stK at h9
    rw [h9, cli_inp h n (by omega), inpD, List.getD_eq_getElem?_getD, List.getD_eq_getElem?_getD, List.getElem?_append_left (by rw [inpD_len]; omega)]
theorem roo_inp {z : Int} {key : List Nat} {ss : List (Nat × List (List Nat))} {ps : List (List Nat × List Nat)} (h : Pth z (keyS z key) ss ps) : rooD z key ss ps = sumD z ((inpA z key ss ps).getD 0 []) := by
  unfold rooD inpA
  rw [foot_low h]
  exact cli_inp h _ (Nat.le_refl _) _
/-- As far as the inputs are alike, the next ones have one digest. -/
theorem inp_down {z : Int} {ks : List Nat} {ss tt : List (Nat × List (List Nat))} {ps qs : List (List Nat × List Nat)} (h : Pth z ks ss ps) (g : Pth z ks tt qs) {n m : Nat} (hn : n = footN ss ps) (hm : m = footN tt qs) (la lb : List Nat) (h0 : sumD z ((inpD z ks ss n la).getD 0 []) = sumD z ((inpD z ks tt m lb).getD 0 [])) :
    ∀ i, i ≤ n → i ≤ m → (∀ j, j < i → (inpD z ks ss n la).getD j [] = (inpD z ks tt m lb).getD j []) → sumD z ((inpD z ks ss n la).getD i []) = sumD z ((inpD z ks tt m lb).getD i [])
  | 0, _, _, _ => h0
  | i + 1, h1, h2, hs => by
    have h9 := hs i (by omega)
    rw [inpD_at _ _ _ n la i (by omega), inpD_at _ _ _ m lb i (by omega)] at h9
    exact (stB_inj h g (by omega) (by omega) (sumD_ok h.w _) (sumD_ok h.w _) h9).2.1
theorem inp_split {z : Int} {ks : List Nat} {ss tt : List (Nat × List (List Nat))} {ps qs : List (List Nat × List Nat)} (h : Pth z ks ss ps) (g : Pth z ks tt qs) {n m : Nat} (hn : n = footN ss ps) (hm : m = footN tt qs) (la lb : List Nat) (h0 : sumD z ((inpD z ks ss n la).getD 0 []) = sumD z ((inpD z ks tt m lb).getD 0 [])) :
    clF z (inpD z ks ss n la) (inpD z ks tt m lb) = true ∨ ∀ j, j ≤ n → j ≤ m → (inpD z ks ss n la).getD j [] = (inpD z ks tt m lb).getD j [] := by
  by_cases hall : ∀ j, j ≤ n → j ≤ m → (inpD z ks ss n la).getD j [] = (inpD z ks tt m lb).getD j []
  · exact Or.inr hall
  · left
    have key : ∀ i, (∀ j, j < i → j ≤ n → j ≤ m → (inpD z ks ss n la).getD j [] = (inpD z ks tt m lb).getD j []) ∨ clF z (inpD z ks ss n la) (inpD z ks tt m lb) = true := by
      intro i
      induction i with
      | zero => exact Or.inl (fun j hj => by omega)
      | succ i ih =>
        rcases ih with ih | ih
        · by_cases hi : i ≤ n ∧ i ≤ m
          · by_cases he : (inpD z ks ss n la).getD i [] = (inpD z ks tt m lb).getD i []
            · left
              intro j hj h1 h2
              rcases Nat.lt_or_ge j i with h9 | h9
              · exact ih j h9 h1 h2
              · obtain rfl : j = i := by omega
                exact he
            · right
              have hpre : ∀ j, j < i → (inpD z ks ss n la).getD j [] = (inpD z ks tt m lb).getD j [] := fun j hj => ih j hj (by omega) (by omega)
              rw [clF_at z _ _ i hpre (by rw [inpD_len]; omega) (by rw [inpD_len]; omega) he]
              exact decide_eq_true (inp_down h g hn hm la lb h0 i hi.1 hi.2 hpre)
          · left
            intro j hj h1 h2
            exact ih j (by omega) h1 h2
        · exact Or.inr ih
    rcases key (n + 1) with h9 | h9
    · exact absurd (fun j h1 h2 => h9 j (by omega) h1 h2) hall
    · exact h9
theorem buckB_head (ps : List (List Nat × List Nat)) : ∃ t, buckB ps = 3 :: t := ⟨_, rfl⟩
theorem low_not_through {z : Int} {ks : List Nat} {ss tt : List (Nat × List (List Nat))} {ps qs : List (List Nat × List Nat)} (h : Pth z ks ss ps) (g : Pth z ks tt qs) (hlt : footN ss ps < footN tt qs) (d : List Nat) (hd : d.length = 32 ∧ formB z d = true) : lowB z ss ps ≠ stB z ks tt (footN ss ps) d := by
  intro he
  have l2 := footN_le tt qs
  unfold lowB at he
  by_cases h1 : 0 < ps.length
  · rw [if_pos h1] at he
    unfold buckB stB branchB at he
    simp at he
  · rw [if_neg h1] at he
    by_cases h2 : ss.length = 0
    · rw [if_pos h2] at he
      unfold stB branchB at he
      simp at he
    · rw [if_neg h2] at he
      have hn : footN ss ps = ss.length - 1 := by unfold footN; rw [if_neg h1]
      rw [hn] at he hlt
      obtain ⟨a1, a2⟩ := h.fin (by omega) (by omega)
      obtain ⟨b1, b2, b3⟩ := g.thr _ hlt
      unfold stB at he
      have h9 := (branchB_inj (h.b _ (by omega)) (g.b _ (by omega)) a2 (by rw [stK_len b3]; exact b2) (h.d _ (by omega)) (stK_ok g hlt hd) he).1
      rw [h9, b1] at a1
      simp at a1
theorem low_same {z : Int} {ks key : List Nat} {ss tt : List (Nat × List (List Nat))} {ps qs : List (List Nat × List Nat)} (he : lowB z ss ps = lowB z tt qs) : valH key ps = valH key qs := by
  unfold lowB at he
  have nil : ∀ l : List (List Nat × List Nat), ¬ 0 < l.length → l = [] := fun l h => List.eq_nil_of_length_eq_zero (by omega)
  by_cases h1 : 0 < ps.length
  · rw [if_pos h1] at he
    by_cases h2 : 0 < qs.length
    · rw [if_pos h2] at he
      rw [(buckB_inj ps qs).1 he]
    · rw [if_neg h2] at he
      exfalso
      split at he
      · unfold buckB at he; simp at he
      · unfold buckB branchB at he; simp at he
  · rw [if_neg h1] at he
    by_cases h2 : 0 < qs.length
    · rw [if_pos h2] at he
      exfalso
      split at he
      · unfold buckB at he; simp at he
      · unfold buckB branchB at he; simp at he
    · rw [nil _ h1, nil _ h2]
theorem clF_symm (z : Int) : ∀ (A B : List (List Nat)), clF z A B = clF z B A
  | [], [] => rfl
  | [], _ :: _ => rfl
  | _ :: _, [] => rfl
  | a :: A, b :: B => by
    rw [clF, clF, clF_symm z A B]
    by_cases h : a = b
    · rw [if_pos h, if_pos h.symm]
    · rw [if_neg h, if_neg (fun h9 => h h9.symm)]
      by_cases h9 : sumD z a = sumD z b
      · rw [decide_eq_true h9, decide_eq_true h9.symm]
      · rw [decide_eq_false h9, decide_eq_false (fun h8 => h9 h8.symm)]
/-- P16.3: two paths of one root say one thing of the key, or the first unlike inputs clash. -/
theorem binds {z : Int} {key : List Nat} {ss tt : List (Nat × List (List Nat))} {ps qs : List (List Nat × List Nat)} (h : Pth z (keyS z key) ss ps) (g : Pth z (keyS z key) tt qs) (he : rooD z key ss ps = rooD z key tt qs) :
    valH key ps = valH key qs ∨ clF z (inpA z key ss ps) (inpA z key tt qs) = true := by
  rw [roo_inp h, roo_inp g] at he
  unfold inpA at he ⊢
  rcases inp_split h g rfl rfl _ _ he with h9 | h9
  · exact Or.inr h9
  · left
    rcases Nat.lt_trichotomy (footN ss ps) (footN tt qs) with hl | hl | hl
    · exfalso
      have h8 := h9 (footN ss ps) (Nat.le_refl _) (by omega)
      rw [inpD_last, inpD_at _ _ _ _ _ _ hl] at h8
      exact low_not_through h g hl _ (sumD_ok h.w _) h8
    · have h8 := h9 (footN ss ps) (Nat.le_refl _) (by omega)
      rw [inpD_last, hl, inpD_last] at h8
      exact low_same (ks := keyS z key) h8
    · exfalso
      have h8 := h9 (footN tt qs) (by omega) (Nat.le_refl _)
      rw [inpD_last, inpD_at _ _ _ _ _ _ hl] at h8
      exact low_not_through g h hl _ (sumD_ok h.w _) h8.symm
end Go.Proofs.YtjafmnemobcipaaDoor
