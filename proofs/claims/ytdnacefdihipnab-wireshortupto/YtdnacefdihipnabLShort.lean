import Derived.Test.YtdnacefdihipnabBack
import Derived.Test.YtdnacefdihipnabWritten
import Derived.Test.YtdnacefdihipnabJoin
namespace Go.Proofs.Ytdnacefdihipnab
open Go.RowKit
set_option linter.unusedVariables false
set_option linter.unusedSimpArgs false

/-- A script of one Op, as a law builds it. -/
theorem SRd.op (w : World) (k : Int) (x : Nat) (n : Int) (pv : Value) (p : List Nat) (hx : x < 18446744073709551616) (hk : -9223372036854775808 ≤ k ∧ k ≤ 9223372036854775807) (hn : -9223372036854775808 ≤ n ∧ n ≤ 9223372036854775807)
    (hr : Rd w pv p) : SRd (w.alloc (.cells #[.int .i64 k, .int .u64 x, .int .i64 n, pv] 33)) (.slice (some ⟨w.heap.size, 0, none⟩) 1 1) [⟨k, x, n, pv, p⟩] := by
  refine ⟨_, 1, rfl, by simp, by omega, by simp, ?_, fun _ => ⟨w.heap.size, 0, rfl, ?_⟩⟩
  · intro o ho; simp at ho; subst ho; exact ⟨hx, hk.1, hk.2, hn.1, hn.2, hr.old ((Kept.refl [] w).alloc _) (by simp)⟩
  · intro i o ho
    have : i = 0 := by
      rcases Nat.lt_or_ge i 1 with h | h
      · omega
      · rw [List.getElem?_eq_none (by simpa using h)] at ho; cases ho
    subst this
    simp at ho
    subst ho
    have hh := heap_alloc_new w (.cells #[.int .i64 k, .int .u64 x, .int .i64 n, pv] 33)
    refine ⟨?_, ?_, ?_, ?_⟩ <;> (rw [cell_of_row _ _ _ _ _ _ hh]; simp)
theorem scriptB_op (k : Int) (x : Nat) (n : Int) (pv : Value) (p : List Nat) : scriptB [⟨k, x, n, pv, p⟩] = layB k x p := by simp [scriptB]

theorem kinds_in (k : Int) : (k < 1) ∨ (¬ k < 1 ∧ 7 < k) ∨ (¬ k < 1 ∧ ¬ 7 < k) := by omega

set_option maxRecDepth 100000 in
set_option maxHeartbeats 8000000 in
theorem wireShort_walk (k : Int) (x : Nat) (n0 n : Int) (pv sv : Value) (p rest : List Nat) (w : World) (hr : Rd w pv p) (hs : Rd w sv rest) (hx : x < 18446744073709551616) (hk : -9223372036854775808 ≤ k ∧ k ≤ 9223372036854775807)
    (hn0 : -9223372036854775808 ≤ n0 ∧ n0 ≤ 9223372036854775807) (hn : -9223372036854775808 ≤ n ∧ n ≤ 9223372036854775807) (hp : p.length ≤ 1048576) (hrl : rest.length ≤ 1048576) (hL : (layB k x p).length ≤ 1048586) (hLb : ∀ y ∈ layB k x p, y < 256) :
    Calls Try.prog 5 #[opV k x n0 pv, .int .i64 n, sv] w fun e w' => e = .returned (.bool true) ∧ Below w.heap.size w w' := by
  have HR := hide hr
  have HS := hide hs
  obtain ⟨ao1, n1, c1, rfl, hpl, _⟩ := hr
  obtain ⟨ao2, n2, c2, rfl, hrl2, _⟩ := hs
  subst hpl
  subst hrl2
  have Hk := hide hk
  have Hn0 := hide hn0
  have HLb := hide hLb
  clear hk hn0 hLb
  have hx' : (x : Int) ≤ 18446744073709551615 := by omega
  rcases kinds_in k with h1 | ⟨h1, h2⟩ | ⟨h1, h2⟩
  · go_enter Try.func5, Try.ntmps5
    go_wp2_with fail
    refine (awake_any _).mono ?_
    rintro e w1 ⟨rfl, k1⟩
    have d0 := k1.cell (a := ⟨w.heap.size, 0, none⟩) (v := .int .i64 k) (by simp [go_sem]) (by simp)
    have HK1 := hide (((Kept.refl [] w).alloc _).trans k1 (by simp))
    clear k1
    go_wp2
    go_ret
    exact ⟨rfl, (unhide HK1).below (Nat.le_refl _) (by simp)⟩
  · go_enter Try.func5, Try.ntmps5
    go_wp2_with fail
    refine (awake_any _).mono ?_
    rintro e w1 ⟨rfl, k1⟩
    have d0 := k1.cell (a := ⟨w.heap.size, 0, none⟩) (v := .int .i64 k) (by simp [go_sem]) (by simp)
    have HK1 := hide (((Kept.refl [] w).alloc _).trans k1 (by simp))
    clear k1
    go_wp2
    go_ret
    exact ⟨rfl, (unhide HK1).below (Nat.le_refl _) (by simp)⟩
  · have hbk := fun (P : List Nat) (i : Nat) (r : List Nat) (hd : P.drop i = layB k x p ++ r) (hi : i ≤ P.length) => rTake_back (n := (p.length : Int)) hd hi (by omega : 1 ≤ k ∧ k ≤ 7) hx (by omega) (fun _ => rfl) (fun _ => Int.le_refl _)
    have hsh := fun (P : List Nat) (m : Nat) (hd : P.drop 0 = (layB k x p).take m) (hm : m < (layB k x p).length) => rTake_short (i := 0) hd hm (Nat.zero_le _) (by omega : 1 ≤ k ∧ k ≤ 7) hx (by omega)
    obtain ⟨L, hLL⟩ : ∃ L, layB k x p = L := ⟨_, rfl⟩
    rw [hLL] at hL HLb hbk hsh
    have HLL := hide hLL
    have Hbk := hide hbk
    have Hsh := hide hsh
    clear hLL hbk hsh
    go_enter Try.func5, Try.ntmps5
    go_wp2_with fail
    refine (awake_any _).mono ?_
    rintro e w1 ⟨rfl, k1⟩
    have hcells : w1.heap[w.heap.size]? = some (.cells #[.int .i64 k, .int .u64 x, .int .i64 n0, .slice ao1 p.length c1] 33 (0, 0)) := k1.heap (heap_alloc_new w _) (by simp)
    have HC := hide hcells
    have d0 : w1.cell? ⟨w.heap.size, 0, none⟩ = some (.int .i64 k) := by rw [cell_of_row _ _ _ _ _ _ hcells]; rfl
    have d1 : w1.cell? ⟨w.heap.size, 1, none⟩ = some (.int .u64 x) := by rw [cell_of_row _ _ _ _ _ _ hcells]; rfl
    have d2 : w1.cell? ⟨w.heap.size, 2, none⟩ = some (.int .i64 n0) := by rw [cell_of_row _ _ _ _ _ _ hcells]; rfl
    have d3 : w1.cell? ⟨w.heap.size, 3, none⟩ = some (.slice ao1 p.length c1) := by rw [cell_of_row _ _ _ _ _ _ hcells]; rfl
    have HK1 := hide (((Kept.refl [] w).alloc _).trans k1 (by simp))
    clear k1 hcells
    go_wp2_with fail
    refine (written_any _ [⟨k, x, n0, .slice ao1 p.length c1, p⟩] _ (by exact SRd.op w1 k x n0 _ p hx (unhide Hk) (unhide Hn0) ((unhide HR).old (unhide HK1) (by simp))) (by rw [scriptB_op, unhide HLL]; omega) (by simp; omega)).mono ?_
    rintro e w2 ⟨g, rfl, hg, h2', k2⟩
    rw [scriptB_op, unhide HLL] at h2' ⊢
    have HG := hide h2'
    have HK2 := hide (((Kept.refl [] w1).alloc _).trans k2 (by simp))
    clear d0 d1 d2 d3 h2' k2 hg
    have hC2 : ∀ w', Kept [] w1 w' → w'.cell? ⟨w.heap.size, 0, none⟩ = some (.int .i64 k) ∧ w'.cell? ⟨w.heap.size, 1, none⟩ = some (.int .u64 x) ∧ w'.cell? ⟨w.heap.size, 2, none⟩ = some (.int .i64 n0) ∧ w'.cell? ⟨w.heap.size, 3, none⟩ = some (.slice ao1 p.length c1) := fun w' kw => by
      have hc := kw.heap (unhide HC) (by simp)
      exact ⟨by rw [cell_of_row _ _ _ _ _ _ hc]; rfl, by rw [cell_of_row _ _ _ _ _ _ hc]; rfl, by rw [cell_of_row _ _ _ _ _ _ hc]; rfl, by rw [cell_of_row _ _ _ _ _ _ hc]; rfl⟩
    have HC2 := hide hC2
    clear hC2
    by_cases hin : 0 ≤ n ∧ n < L.length
    · obtain ⟨m, rfl⟩ : ∃ m : Nat, n = m := ⟨n.toNat, by omega⟩
      have hm1 : (m : Int) < L.length := hin.2
      have hm0 : (0 : Int) ≤ m := by omega
      clear hin
      go_wp2_with fail
      refine (twin_any _ (L.take m) _ (by exact (rd_fresh (unhide HG) (unhide HLb) (by omega)).take (by omega))).mono ?_
      rintro e w3 ⟨rfl, k3, h3⟩
      have hlm : (L.take m).length = m := by simp; omega
      have HF3 := hide (rd_fresh h3 (fun y hy => unhide HLb y (List.mem_of_mem_take hy)) (by omega))
      rw [hlm] at HF3 ⊢
      have HK3 := hide k3
      clear k3 h3
      have Hlm := hide hlm
      clear hlm
      go_wp2_with fail
      refine (newReader_any _ (L.take m) _ (unhide HF3)).mono ?_
      rintro e w4 ⟨b4, gv4, rfl, hb4, hr4, hg4, k4⟩
      have HR4 := hide hr4
      have HK4 := hide ((unhide HK3).trans k4 (by simp))
      have hb42 : w2.heap.size ≤ b4 := by have := (unhide HK3).size; omega
      obtain ⟨d0, d1, d2, d3⟩ := unhide HC2 _ ((unhide HK2).trans (unhide HK4) (by simp))
      clear hr4 hg4 k4
      go_wp2_with fail
      refine (ask_any k x n0 0 _ p _ (by exact ((unhide HR).old (unhide HK1) (by simp)).old ((unhide HK2).trans (unhide HK4) (by simp)) (by simp))).mono ?_
      rintro e w5 ⟨rfl, k5⟩
      rw [show askN k 0 p.length = (p.length : Int) from by simp [askN]]
      have HR5 := hide ((unhide HR4).kept k5 (by simp) (by simp))
      have HK5 := hide ((unhide HK4).trans k5 (by simp))
      clear k5 d0 d1 d2 d3
      go_wp2_with fail
      refine (take_any b4 gv4 _ 0 0 k x (p.length : Int) _ _ (unhide HR5) (by omega)).mono ?_
      rintro e w6 ⟨rv6, rfl, hr6, hr62, k6, hb6⟩
      rw [unhide Hsh (L.take m) m (by simp) (by omega)] at hr6 hr62 ⊢
      have HR6 := hide hr62
      have HK6 := hide ((unhide HK5).trans k6 (by simpa using hb42))
      obtain ⟨ao6, n6, c6, rfl, hn6, _⟩ := hr6
      simp only [List.length_nil] at hn6
      subst hn6
      clear hr62 k6 hb6
      go_wp2_with fail
      refine (rerr_any b4 gv4 _ 0 3 _ (unhide HR6)).mono ?_
      rintro e w7 ⟨rfl, hw7⟩
      subst w7
      go_wp2_with fail
      refine (rat_any b4 gv4 _ 0 3 _ (unhide HR6)).mono ?_
      rintro e w7 ⟨rfl, hw7⟩
      subst w7
      go_wp2_with fail
      refine (rdone_any b4 gv4 _ 0 3 _ (unhide HR6)).mono ?_
      rintro e w7 ⟨rfl, n7, hw7⟩
      rw [show doneE (L.take m) 0 3 = 3 from by simp [doneE]]
      have HK7 := hide (by rw [hw7]; exact (unhide HK6).drewN n7 : Kept [] w2 w7)
      clear hw7 n7
      have HJ := hide (unhide HK7 : Kept [] w2 w7)
      go_wp2_with fail
      refine (join_any _ _ L rest _ (by exact (rd_fresh (unhide HG) (unhide HLb) (by omega)).old (unhide HJ) (by simp)) (by exact ((unhide HS).old (unhide HK1) (by simp)).old ((unhide HK2).trans (unhide HJ) (by simp)) (by simp)) (by omega)).mono ?_
      rintro e wa ⟨lv, rfl, hra, ka, hba⟩
      have HRa := hide hra
      have HKa := hide ((unhide HJ).trans ka (by simp))
      clear hra ka hba
      go_wp2_with fail
      refine (newReader_any _ (L ++ rest) _ (unhide HRa)).mono ?_
      rintro e wb ⟨bb, gvb, rfl, hbb, hrb, hgb, kb⟩
      have HRb := hide hrb
      have HKb := hide ((unhide HKa).trans kb (by simp))
      have hbb2 : w2.heap.size ≤ bb := by have := (unhide HKa).size; omega
      obtain ⟨d0, d1, d2, d3⟩ := unhide HC2 _ ((unhide HK2).trans (unhide HKb) (by simp))
      clear hrb hgb kb
      go_wp2_with fail
      refine (ask_any k x n0 0 _ p _ (by exact ((unhide HR).old (unhide HK1) (by simp)).old ((unhide HK2).trans (unhide HKb) (by simp)) (by simp))).mono ?_
      rintro e wc ⟨rfl, kc⟩
      rw [show askN k 0 p.length = (p.length : Int) from by simp [askN]]
      have HRc := hide ((unhide HRb).kept kc (by simp) (by simp))
      have HKc := hide ((unhide HKb).trans kc (by simp))
      clear kc d0 d1 d2 d3
      go_wp2_with fail
      refine (take_any bb gvb _ 0 0 k x (p.length : Int) _ _ (unhide HRc) (by omega)).mono ?_
      rintro e wd ⟨rvd, rfl, hrd, hrd2, kd, hbd⟩
      rw [unhide Hbk (L ++ rest) 0 rest rfl (Nat.zero_le _)] at hrd2 ⊢
      simp only [Nat.zero_add] at hrd2
      have HRd := hide hrd2
      have HKd := hide ((unhide HKc).trans kd (by simpa using hbb2))
      clear hrd hrd2 kd hbd
      obtain ⟨z, hz⟩ : ∃ z, (if k ≤ 5 then cutN k x else 0) = z := ⟨_, rfl⟩
      rw [hz]
      clear hz
      go_wp2_with fail
      refine (rraw_any bb gvb _ L.length 0 (rest.length : Int) _ (unhide HRd) (by omega)).mono ?_
      rintro e we ⟨rve, rfl, hre, hre2, ke, hbe⟩
      rw [rRaw_back (P := L ++ rest) (i := L.length) (p := rest) (r := []) (by simp) (by simp)] at hre hre2
      have HRe := hide hre2
      have HRv := hide hre
      have HKe := hide ((unhide HKd).trans ke (by simpa using hbb2))
      clear hre hre2 ke hbe
      obtain ⟨aoe, ne, ce, rfl⟩ : ∃ ao n c, rve = .slice ao n c := by obtain ⟨ao, n, c, e, _⟩ := unhide HRv; exact ⟨ao, n, c, e⟩
      go_wp2_with fail
      refine (rat_any bb gvb _ _ 0 _ (unhide HRe)).mono ?_
      rintro e wf ⟨rfl, hwf⟩
      subst wf
      have teq : (((L.length + rest.length : Nat) : Int) == (L.length : Int) + rest.length) = true := by simp
      have teq2 : ((L.length : Int) + rest.length == (L.length : Int) + rest.length) = true := by simp
      go_wp2_with fail
      refine (same_any _ _ rest rest _ (unhide HRv) (by exact ((unhide HS).old (unhide HK1) (by simp)).old ((unhide HK2).trans (unhide HKe) (by simp)) (by simp))).mono ?_
      rintro e wf ⟨rfl, nf, hwf⟩
      have HRf := hide (by rw [hwf]; exact (unhide HRe).drewN nf : ReAt wf bb gvb (L ++ rest) (L.length + rest.length) 0)
      have HKf := hide (by rw [hwf]; exact (unhide HKe).drewN nf : Kept [] w2 wf)
      clear hwf nf
      go_wp2_with fail
      refine (rdone_any bb gvb _ _ 0 _ (unhide HRf)).mono ?_
      rintro e wg ⟨rfl, ng, hwg⟩
      rw [show doneE (L ++ rest) (L.length + rest.length) 0 = 0 from by simp [doneE]]
      have HKg := hide (by rw [hwg]; exact (((unhide HK1).trans (unhide HK2) (by simp)).trans (unhide HKf) (by simp)).drewN ng : Kept [] w wg)
      clear hwg ng
      go_wp2
      go_ret
      exact ⟨rfl, (unhide HKg).below (Nat.le_refl _) (by simp)⟩
    · have T := (show n < 0 ∨ (¬ n < 0 ∧ ¬ n < L.length) from by omega)
      clear hin
      rcases T with hn1 | ⟨hn1, hn2⟩
      all_goals
        have HJ := hide (Kept.refl [] w2 : Kept [] w2 w2)
        go_wp2_with fail
        refine (join_any _ _ L rest _ (by exact (rd_fresh (unhide HG) (unhide HLb) (by omega)).old (unhide HJ) (by simp)) (by exact ((unhide HS).old (unhide HK1) (by simp)).old ((unhide HK2).trans (unhide HJ) (by simp)) (by simp)) (by omega)).mono ?_
        rintro e wa ⟨lv, rfl, hra, ka, hba⟩
        have HRa := hide hra
        have HKa := hide ((unhide HJ).trans ka (by simp))
        clear hra ka hba
        go_wp2_with fail
        refine (newReader_any _ (L ++ rest) _ (unhide HRa)).mono ?_
        rintro e wb ⟨bb, gvb, rfl, hbb, hrb, hgb, kb⟩
        have HRb := hide hrb
        have HKb := hide ((unhide HKa).trans kb (by simp))
        have hbb2 : w2.heap.size ≤ bb := by have := (unhide HKa).size; omega
        obtain ⟨d0, d1, d2, d3⟩ := unhide HC2 _ ((unhide HK2).trans (unhide HKb) (by simp))
        clear hrb hgb kb
        go_wp2_with fail
        refine (ask_any k x n0 0 _ p _ (by exact ((unhide HR).old (unhide HK1) (by simp)).old ((unhide HK2).trans (unhide HKb) (by simp)) (by simp))).mono ?_
        rintro e wc ⟨rfl, kc⟩
        rw [show askN k 0 p.length = (p.length : Int) from by simp [askN]]
        have HRc := hide ((unhide HRb).kept kc (by simp) (by simp))
        have HKc := hide ((unhide HKb).trans kc (by simp))
        clear kc d0 d1 d2 d3
        go_wp2_with fail
        refine (take_any bb gvb _ 0 0 k x (p.length : Int) _ _ (unhide HRc) (by omega)).mono ?_
        rintro e wd ⟨rvd, rfl, hrd, hrd2, kd, hbd⟩
        rw [unhide Hbk (L ++ rest) 0 rest rfl (Nat.zero_le _)] at hrd2 ⊢
        simp only [Nat.zero_add] at hrd2
        have HRd := hide hrd2
        have HKd := hide ((unhide HKc).trans kd (by simpa using hbb2))
        clear hrd hrd2 kd hbd
        obtain ⟨z, hz⟩ : ∃ z, (if k ≤ 5 then cutN k x else 0) = z := ⟨_, rfl⟩
        rw [hz]
        clear hz
        go_wp2_with fail
        refine (rraw_any bb gvb _ L.length 0 (rest.length : Int) _ (unhide HRd) (by omega)).mono ?_
        rintro e we ⟨rve, rfl, hre, hre2, ke, hbe⟩
        rw [rRaw_back (P := L ++ rest) (i := L.length) (p := rest) (r := []) (by simp) (by simp)] at hre hre2
        have HRe := hide hre2
        have HRv := hide hre
        have HKe := hide ((unhide HKd).trans ke (by simpa using hbb2))
        clear hre hre2 ke hbe
        obtain ⟨aoe, ne, ce, rfl⟩ : ∃ ao n c, rve = .slice ao n c := by obtain ⟨ao, n, c, e, _⟩ := unhide HRv; exact ⟨ao, n, c, e⟩
        go_wp2_with fail
        refine (rat_any bb gvb _ _ 0 _ (unhide HRe)).mono ?_
        rintro e wf ⟨rfl, hwf⟩
        subst wf
        have teq : (((L.length + rest.length : Nat) : Int) == (L.length : Int) + rest.length) = true := by simp
        have teq2 : ((L.length : Int) + rest.length == (L.length : Int) + rest.length) = true := by simp
        go_wp2_with fail
        refine (same_any _ _ rest rest _ (unhide HRv) (by exact ((unhide HS).old (unhide HK1) (by simp)).old ((unhide HK2).trans (unhide HKe) (by simp)) (by simp))).mono ?_
        rintro e wf ⟨rfl, nf, hwf⟩
        have HRf := hide (by rw [hwf]; exact (unhide HRe).drewN nf : ReAt wf bb gvb (L ++ rest) (L.length + rest.length) 0)
        have HKf := hide (by rw [hwf]; exact (unhide HKe).drewN nf : Kept [] w2 wf)
        clear hwf nf
        go_wp2_with fail
        refine (rdone_any bb gvb _ _ 0 _ (unhide HRf)).mono ?_
        rintro e wg ⟨rfl, ng, hwg⟩
        rw [show doneE (L ++ rest) (L.length + rest.length) 0 = 0 from by simp [doneE]]
        have HKg := hide (by rw [hwg]; exact (((unhide HK1).trans (unhide HK2) (by simp)).trans (unhide HKf) (by simp)).drewN ng : Kept [] w wg)
        clear hwg ng
        go_wp2
        go_ret
        exact ⟨rfl, (unhide HKg).below (Nat.le_refl _) (by simp)⟩
end Go.Proofs.Ytdnacefdihipnab
