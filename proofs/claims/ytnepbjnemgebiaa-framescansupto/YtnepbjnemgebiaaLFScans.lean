import Derived.Test.YtnepbjnemgebiaaFDocS
import Derived.Test.YtnepbjnemgebiaaQKeep
import Derived.Deep.RegionHeld3
namespace Go.Proofs.Ytnepbjnemgebiaa
open Go.RowKit Go.BigFrame
set_option linter.unusedVariables false
set_option linter.unusedSimpArgs false

set_option maxRecDepth 100000 in
set_option maxHeartbeats 2000000 in
theorem alike_any (u v : Value) (fs : List (Nat × List Nat)) (w : World) (hu : RdF w u fs) (hv : RdF w v fs) :
    Calls Try.prog 19 #[u, v] w fun e w' => e = .returned (.bool true) ∧ Kept [] w w' := by
  obtain ⟨ao, cap, ts, rfl, hf1, hc1, hc2, hr1, hcl1⟩ := hu
  obtain ⟨ao', cap', ts', rfl, hf2, hc1', hc2', hr2, hcl2⟩ := hv
  have hlen : ts'.length = ts.length := by
    have := congrArg List.length (hf1.symm.trans hf2)
    simpa using this.symm
  have HEQ := hide (fun i (h : i < ts.length) (h' : i < ts'.length) => by
    have := congrArg (fun l => l[i]?) (hf1.symm.trans hf2)
    simp only [List.getElem?_map, List.getElem?_eq_getElem h, List.getElem?_eq_getElem h', Option.map_some, Option.some.injEq, Prod.mk.injEq] at this
    exact this : ∀ i (h : i < ts.length) (h' : i < ts'.length), ts[i].1 = ts'[i].1 ∧ ts[i].2.2 = ts'[i].2.2)
  have HR1 := hide hr1
  have HR2 := hide hr2
  have HC1 := hide hcl1
  have HC2 := hide hcl2
  clear hr1 hr2 hcl1 hcl2 hf1 hf2
  have hlen' : (ts'.length : Int) = ts.length := by omega
  go_enter Try.func19, Try.ntmps19
  rw [hlen]
  go_wp2_with fail
  go_loopw [13] (fun t13 wr => ∃ (i : Nat), i ≤ ts.length ∧ t13 = .int .i64 i ∧ Hid (Kept [] w wr)) (fun t _ => ts.length - (intOf t).toNat)
  case atStart => exact ⟨0, Nat.zero_le _, rfl, hide (Kept.refl _ _)⟩
  case round =>
    obtain ⟨i, hi, rfl, HK⟩ := hrel
    by_cases hlt : i < ts.length
    · have hlt' : (i : Int) < ts.length := by omega
      have hlt2 : i < ts'.length := by omega
      obtain ⟨b, off, rfl, hcc⟩ := unhide HC1 (by omega)
      obtain ⟨b', off', rfl, hcc'⟩ := unhide HC2 (by omega)
      have q1 := (unhide HK).cell (hcc i hlt).1 (by simp)
      have q2 := (unhide HK).cell (hcc i hlt).2 (by simp)
      have q3 := (unhide HK).cell (hcc' i hlt2).1 (by simp)
      have q4 := (unhide HK).cell (hcc' i hlt2).2 (by simp)
      have HA := hide ((unhide HR1 ts[i] (List.getElem_mem hlt)).old (unhide HK) (by simp))
      have HB := hide ((unhide HR2 ts'[i] (List.getElem_mem hlt2)).old (unhide HK) (by simp))
      obtain ⟨he1, he2⟩ := unhide HEQ i hlt hlt2
      clear hcc hcc'
      rw [← he1] at q3
      rw [← he2] at HB
      clear he1 he2
      generalize ts'[i].2.1 = pv' at q4 HB
      generalize ts[i] = ti at q1 q2 q3 HA HB
      obtain ⟨pl, pv, pay⟩ := ti
      simp only at q1 q2 q3 HA HB
      obtain ⟨a8, m8, c8, rfl, hm8, _⟩ := id (unhide HA)
      obtain ⟨a9, m9, c9, rfl, hm9, _⟩ := id (unhide HB)
      subst hm8
      subst hm9
      go_wp2_with fail
      go_region_held3 (fun w' => (w'.cell? ⟨b, off + i * 2, none⟩ = some (.int .u64 pl) ∧ w'.cell? ⟨b, off + i * 2 + 1, none⟩ = some (.slice a8 pay.length c8)) ∧ w'.cell? ⟨b', off' + i * 2, none⟩ = some (.int .u64 pl) ∧ w'.cell? ⟨b', off' + i * 2 + 1, none⟩ = some (.slice a9 pay.length c9)) (go_keep) (first
        | (go_at_call 16; refine (fsame_any pl pl _ _ pay pay _ (by exact unhide HA) (by exact unhide HB)).mono ?_; rintro e w6 ⟨rfl, k6⟩; have HK6 := hide ((unhide HK).drew.trans k6 (by simp)); have j1 := k6.cell (show wr.drew.cell? _ = _ from q1) (by simp); have j2 := k6.cell (show wr.drew.cell? _ = _ from q2) (by simp); have j3 := k6.cell (show wr.drew.cell? _ = _ from q3) (by simp); have j4 := k6.cell (show wr.drew.cell? _ = _ from q4) (by simp); clear k6; rw [show (decide (pl = pl) && decide (pay = pay)) = true by simp]))
      go_wp2
      refine ⟨⟨i + 1, by omega, by go_num, HK6⟩, ?_⟩
      simp [intOf]; omega
    · have hlt' : ¬ (i : Int) < ts.length := by omega
      go_wp2
      go_ret
      exact ⟨rfl, unhide HK⟩

set_option maxRecDepth 100000 in
set_option maxHeartbeats 2000000 in
theorem frameScans_walk (v : Value) (p : List Nat) (w : World) (h : Rd w v p) (hl : p.length ≤ 1048576) :
    Calls Try.prog 5 #[v] w fun e w' => e = .returned (.bool true) ∧ Below w.heap.size w w' := by
  have H := hide h
  clear h
  go_enter Try.func5, Try.ntmps5
  go_wp2_with fail
  refine Calls.mono (fawake_any _) ?_
  rintro e w1 ⟨rfl, k1⟩
  have HK1 := hide k1
  clear k1
  go_wp2_with fail
  refine Calls.mono (twin_any _ p w1 ((unhide H).old (unhide HK1) (by simp))) ?_
  rintro e w2 ⟨rfl, k2, g2⟩
  have HK2 := hide ((unhide HK1).trans k2 (by simp))
  have HR2 := hide (rd_fresh g2 (unhide H).byte (unhide H).len)
  clear k2 g2
  go_wp2_with fail
  refine Calls.mono (scan_any _ p w2 (unhide HR2) (by omega)) ?_
  rintro e w3 ⟨v3, rfl, r3, k3⟩
  have HR3 := hide r3
  have HK3 := hide ((unhide HK2).trans k3 (by simp))
  obtain ⟨ao3, cap3, ts3, rfl, _⟩ := id r3
  clear k3 r3
  go_wp2_with fail
  refine Calls.mono (docScan_any _ p w3 ((unhide H).old (unhide HK3) (by simp)) (by omega)) ?_
  rintro e w4 ⟨v4, rfl, r4, k4⟩
  have HR4 := hide r4
  have HR34 := hide ((unhide HR3).old k4)
  have HK4 := hide ((unhide HK3).trans k4 (by simp))
  obtain ⟨ao4, cap4, ts4, rfl, _⟩ := id r4
  clear k4 r4
  go_wp2_with fail
  refine Calls.mono (alike_any _ _ _ w4 (unhide HR34) (unhide HR4)) ?_
  rintro e w5 ⟨rfl, k5⟩
  have HK5 := hide ((unhide HK4).trans k5 (by simp))
  clear k5
  go_wp2
  go_ret
  exact ⟨rfl, (unhide HK5).below (Nat.le_refl _) (by simp)⟩
end Go.Proofs.Ytnepbjnemgebiaa
