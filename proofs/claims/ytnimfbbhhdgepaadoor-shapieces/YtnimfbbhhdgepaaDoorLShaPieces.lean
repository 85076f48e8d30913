import Derived.Test.YtnimfbbhhdgepaaDoorLShaSums
import Derived.Test.YtnimfbbhhdgepaaDoorQKeep
import Derived.Test.YtnimfbbhhdgepaaDoorRdSub
namespace Go.Proofs.YtnimfbbhhdgepaaDoor
open Go.RowKit Go.BigFrame
set_option linter.unusedVariables false
set_option linter.unusedSimpArgs false

/-- The slice value v reads as the numbers zs. -/
def RdI (w : World) (v : Value) (zs : List Int) : Prop :=
  ∃ (ao : Option Addr) (len cap : Nat), v = .slice ao len cap ∧ zs.length = len ∧ len ≤ cap ∧ cap ≤ 9223372036854775807 ∧
    (∀ x ∈ zs, -9223372036854775808 ≤ x ∧ x ≤ 9223372036854775807) ∧ (0 < len → ∃ b off, ao = some ⟨b, off, none⟩ ∧ ∀ i, i < len → w.cell? ⟨b, off + i, none⟩ = some (.int .i64 (zs.getD i 0)))
theorem RdI.old {w0 w : World} {v : Value} {ws : List Int} (h : RdI w0 v ws) (k : Kept [] w0 w) : RdI w v ws := by
  obtain ⟨ao, len, cap, rfl, h1, h2, h3, h5, h6⟩ := h
  refine ⟨ao, len, cap, rfl, h1, h2, h3, h5, fun hp => ?_⟩
  obtain ⟨b, off, rfl, hc⟩ := h6 hp
  exact ⟨b, off, rfl, fun i hi => k.cell (hc i hi) (by simp)⟩

theorem par_eq (c : Int) : (c % 2 == 0) = (Int.tmod c 2 == 0) := by
  rcases Int.le_total 0 c with h | h
  · rw [Int.tmod_eq_emod_of_nonneg h]
  · obtain ⟨m, rfl⟩ : ∃ m : Int, c = -m := ⟨-c, by omega⟩
    rw [Int.neg_tmod, Int.tmod_eq_emod_of_nonneg (by omega)]
    rw [Bool.eq_iff_iff]; simp only [beq_iff_eq]; omega

set_option maxRecDepth 100000 in
set_option maxHeartbeats 2000000 in
theorem shaPieces_walk (v : Value) (p : List Nat) (u : Value) (zs : List Int) (w : World) (h : Rd w v p) (hl : p.length ≤ 140737488355328) (hu : RdI w u zs) (hT : Tabs w) :
    Calls Tryd.prog 6 #[v, u] w fun e w' => e = .returned (.bool true) ∧ Below w.heap.size w w' := by
  have HT := hide hT
  have H := hide h
  have HUo := hide (fun W (k : Kept [] w W) => hu.old k)
  obtain ⟨va, vl, vc, rfl, hvl, hv2, ⟨hv3, hv3'⟩, hv4, hv5, hvx⟩ := h
  obtain ⟨ua, ul, uc, rfl, hul, hu2, hu3, hu5, hux⟩ := hu
  subst hvl
  subst hul
  have HU5 := hide hu5
  have h2 := hT.two
  clear hT hv5 hu5 hv4 hvx hux
  go_enter Tryd.func6, Tryd.ntmps6
  go_wp2_with fail
  refine (shaAwake_any w (unhide HT)).mono ?_
  rintro e w1 ⟨rfl, k1⟩
  have HK1 := hide k1
  have hs1 := k1.size
  clear k1
  go_wp2_with fail
  refine (snew_any w1).mono ?_
  rintro e w2 ⟨rfl, s2, k2⟩
  have HS2 := hide s2
  have HK2 := hide ((unhide HK1).trans k2 (by simp))
  obtain ⟨g, hg⟩ : ∃ g, w1.heap.size = g := ⟨_, rfl⟩
  have Hge := hide (by omega : w.heap.size ≤ g)
  rw [hg] at HS2
  clear s2 k2
  go_wp2_with fail
  go_loopw [6, 15] (fun t6 t15 wr => ∃ (d i : Nat), d ≤ p.length ∧ i ≤ zs.length ∧ t6 = .int .i64 d ∧ t15 = .int .i64 i ∧ Hid (St wr g (p.take d)) ∧ Hid (Kept [] w wr)) (fun _ t _ => zs.length - (intOf t).toNat)
  case atStart => exact ⟨0, 0, Nat.zero_le _, Nat.zero_le _, rfl, rfl, HS2, HK2⟩
  case round =>
    clear HS2 HK2
    obtain ⟨d, i, hd, hi, rfl, rfl, HS, HK⟩ := hrel
    by_cases hlt : i < zs.length
    · have hlt' : (i : Int) < zs.length := by omega
      obtain ⟨_, _, _, he, _, _, _, hb5, hc6⟩ := unhide HUo _ (unhide HK)
      cases he
      obtain ⟨b, o, rfl, hcell⟩ := hc6 (by omega)
      have cs := hcell i hlt
      have hx : -9223372036854775808 ≤ zs.getD i 0 ∧ zs.getD i 0 ≤ 9223372036854775807 := by
        rw [List.getD_eq_getElem?_getD, List.getElem?_eq_getElem hlt]; exact hb5 _ (List.getElem_mem hlt)
      generalize zs.getD i 0 = c at cs hx
      clear hcell hb5 hc6
      have HRp := hide ((unhide H).old (unhide HK) (by simp))
      have hdI : (d : Int) ≤ p.length := by omega
      obtain ⟨n, hdn, hnv⟩ : ∃ n : Nat, d + n ≤ p.length ∧ ((c ≤ 0 ∧ n = 0) ∨ (0 < c ∧ c ≤ (p.length : Int) - d ∧ c = n) ∨ (0 < c ∧ (p.length : Int) - d < c ∧ (p.length : Int) - d = n)) := by
        by_cases h0 : c ≤ 0
        · exact ⟨0, by omega, Or.inl ⟨h0, rfl⟩⟩
        · by_cases h1 : c ≤ (p.length : Int) - d
          · exact ⟨c.toNat, by omega, Or.inr (Or.inl ⟨by omega, h1, by omega⟩)⟩
          · exact ⟨p.length - d, by omega, Or.inr (Or.inr ⟨by omega, by omega, by omega⟩)⟩
      have hI1 : (d : Int) + n ≤ p.length := by omega
      have hI2 : (p.length : Int) ≤ vc := by omega
      obtain ⟨m, hm⟩ : ∃ m, d + n = m := ⟨_, rfl⟩
      have hmp : m ≤ p.length := by omega
      have hmI : (d : Int) + n = m := by omega
      have hmV : (m : Int) ≤ vc := by omega
      have hmd : m - d = n := by omega
      obtain ⟨Q, hQ⟩ : ∃ Q, (p.drop d).take n = Q := ⟨_, rfl⟩
      have hQl : Q.length = n := by rw [← hQ]; simp; omega
      have HQt := hide (by rw [← hQ]; rw [← hm]; exact take_more p d n : p.take d ++ Q = p.take m)
      have HQb := hide (by rw [← hQ]; exact fun x hx => (unhide H).byte x (List.mem_of_mem_drop (List.mem_of_mem_take hx)) : ∀ x ∈ Q, x < 256)
      have HRs0 := hide (fun (e : vc = d) => by have := (unhide HRp).sub0 e hdn; rw [hQ] at this; exact this : vc = d → Rd wr (.slice va n 0) Q)
      have HRs1 := hide (by have := (unhide HRp).sub hdn; rw [hQ] at this; exact this : Rd wr (.slice (Option.map (fun x => x.add d) va) n (vc - d)) Q)
      have HQl := hide hQl
      have hgw := (unhide HS).lt
      have Hcn := hide hnv
      obtain ⟨P2, hP2⟩ : ∃ P2 : Bool, (Int.tmod c 2 == 0) = P2 := ⟨_, rfl⟩
      have hP2' : (c % 2 == 0) = P2 := by rw [← hP2]; exact par_eq c
      clear hQ hQl
      rcases hnv with ⟨hc0, hn0⟩ | ⟨hc0, hc1, hc2⟩ | ⟨hc0, hc1, hc2⟩
      case' inl =>
        subst hn0
        rw [Nat.add_zero] at hm
        subst hm
      case' inr.inl => subst hc2
      all_goals
        by_cases hcs : vc = d
      all_goals
        try (exfalso; omega)
      all_goals
        try subst hcs
        try (have HRs2 := hide (unhide HRs0 (Eq.refl vc)))
        clear HRs0
        go_wp2_with fail
        refine Calls.mono (ltwin_any _ Q wr ?_) ?_
        · first | exact unhide HRs2 | exact unhide HRs1
        rintro e w3 ⟨rfl, k3, h3w⟩
        have HQ3 := hide (rd_fresh h3w (unhide HQb) (by rw [unhide HQl]; omega))
        have HS3 := hide ((unhide HS).kept k3 (by simp))
        have HK3 := hide ((unhide HK).trans k3 (by simp))
        clear k3 h3w
        go_wp2_with fail
        refine Calls.mono (write_any g _ _ Q w3 (unhide HS3) (unhide HQ3) (by intro _; simp [blk]; omega) (by have := unhide Hge; omega) (by rw [unhide HQl]; simp; omega) ((unhide HT).k (unhide HK3))) ?_
        rintro e w4 ⟨rfl, s4, k4⟩
        rw [unhide HQt] at s4
        have HS4 := hide s4
        have HK4 := hide ((unhide HK3).trans k4 (by have := unhide Hge; simp; omega))
        clear s4 k4
        go_wp2_with fail
        have hne : ∀ p : Prop, (∀ w', Kept [] w4 w' → p) = p := fun p => propext ⟨fun h => h w4 (Kept.refl [] w4), fun h _ _ => h⟩
        cases P2
        · refine wp_region_keep (by kernel_rfl) (by kernel_rfl) ?_
          repeat (go_big_quiet_step (fail))
          refine wpQuiet_nil ?_
          intro w5 hw5
          have HS5 := hide ((unhide HS4).kept hw5 (by simp))
          have HK5 := hide ((unhide HK4).trans hw5 (by simp))
          clear hw5 hne
          go_wp2
          refine ⟨⟨_, i + 1, hmp, by omega, rfl, by go_num, HS5, HK5⟩, ?_⟩
          simp [intOf]; omega
        · have HRt := hide ((unhide H).old (unhide HK4) (by simp))
          have HRt2 := hide (Rd.take (unhide HRt) hmp)
          have HSA := hide (fun w' (hw' : Kept [] w4 w') => (ssum_any g _ w' ((unhide HS4).kept hw' (by simp)) (by simp; omega) ((unhide HT).k ((unhide HK4).trans hw' (by simp)))).mono (fun e w2 (h2 : _ ∧ _) => (⟨h2.1, hw'.trans h2.2 (by simp)⟩ : _ ∧ Kept [] w4 w2)))
          have HRA := hide (fun w' (hw' : Kept [] w4 w') => (refsum_any _ _ w' ((unhide HRt2).old hw' (by simp))).mono (fun e w2 (h2 : _ ∧ _) => (⟨h2.1, hw'.trans h2.2 (by simp)⟩ : _ ∧ Kept [] w4 w2)))
          refine wp_region_keep (by kernel_rfl) (by kernel_rfl) ?_
          go_big_quiet_step (fail)
          go_big_quiet_step (fail)
          go_big_quiet_step (fail)
          go_big_quiet_step (fail)
          go_big_quiet_step (fail)
          go_big_quiet_want
          go_big_quiet_op
          apply Exists.intro
          refine ⟨fun w' hw' => ?_, ?_⟩
          · exact unhide HSA w' hw'
          go_big_quiet_on
          go_big_quiet_step (fail)
          go_big_quiet_step (fail)
          go_big_quiet_step (fail)
          go_big_quiet_want
          go_big_quiet_op
          apply Exists.intro
          refine ⟨fun w' hw' => ?_, ?_⟩
          · exact unhide HRA w' hw'
          go_big_quiet_on
          refine wpQuiet_val rfl (.bool (!true)) (fun w' _ => run_neq 24 (.tmp 44) (.tmp 48) 24 rfl (brow (hash (p.take _))) (brow (hash (p.take _))) rfl rfl w' true (by kernel_rfl) (by rw [row_eq w' _ _ (hash_len _) (hash_len _), decide_eq_true rfl])) ?_
          simp only [Act.put, List.setIfInBounds_toArray, List.set_cons_succ, List.set_cons_zero, Bool.not_true]
          repeat (go_big_quiet_step (fail))
          refine wpQuiet_nil ?_
          intro w5 hw5
          have HS5 := hide ((unhide HS4).kept hw5 (by simp))
          have HK5 := hide ((unhide HK4).trans hw5 (by simp))
          clear hw5 hne
          go_wp2
          refine ⟨⟨_, i + 1, hmp, by omega, rfl, by go_num, HS5, HK5⟩, ?_⟩
          simp [intOf]; omega
    · have hlt' : ¬ (i : Int) < zs.length := by omega
      have HRp := hide ((unhide H).old (unhide HK) (by simp))
      have hdI : (d : Int) ≤ p.length := by omega
      have hI2 : (p.length : Int) ≤ vc := by omega
      obtain ⟨Q, hQ⟩ : ∃ Q, p.drop d = Q := ⟨_, rfl⟩
      have hQl : p.length - d = Q.length := by rw [← hQ]; simp
      have HQt := hide (by rw [← hQ]; exact List.take_append_drop d p : p.take d ++ Q = p)
      have HQb := hide (by rw [← hQ]; exact fun x hx => (unhide H).byte x (List.mem_of_mem_drop hx) : ∀ x ∈ Q, x < 256)
      have HRs0 := hide (fun (e : vc = d) => by have := (unhide HRp).drop0 e hd; rw [hQ, hQl] at this; exact this : vc = d → Rd wr (.slice va Q.length 0) Q)
      have HRs1 := hide (by have := (unhide HRp).drop hd; rw [hQ, hQl] at this; exact this : Rd wr (.slice (Option.map (fun x => x.add d) va) Q.length (vc - d)) Q)
      have hgw := (unhide HS).lt
      clear hQ
      by_cases hcs : vc = d
      all_goals
        try subst hcs
        try (have HRs2 := hide (unhide HRs0 (Eq.refl vc)))
        clear HRs0
        go_wp2_with fail
        refine Calls.mono (ltwin_any _ Q wr ?_) ?_
        · first | exact unhide HRs2 | exact unhide HRs1
        rintro e w3 ⟨rfl, k3, h3w⟩
        have HQ3 := hide (rd_fresh h3w (unhide HQb) (by omega))
        have HS3 := hide ((unhide HS).kept k3 (by simp))
        have HK3 := hide ((unhide HK).trans k3 (by simp))
        clear k3 h3w
        go_wp2_with fail
        refine Calls.mono (write_any g _ _ Q w3 (unhide HS3) (unhide HQ3) (by intro _; simp [blk]; omega) (by have := unhide Hge; omega) (by simp; omega) ((unhide HT).k (unhide HK3))) ?_
        rintro e w4 ⟨rfl, s4, k4⟩
        rw [unhide HQt] at s4
        have HS4 := hide s4
        have HK4 := hide ((unhide HK3).trans k4 (by have := unhide Hge; simp; omega))
        clear s4 k4
        go_wp2_with fail
        refine Calls.mono (ssum_any g _ w4 (unhide HS4) (by omega) ((unhide HT).k (unhide HK4))) ?_
        rintro e w5 ⟨rfl, k5⟩
        have HS5 := hide ((unhide HS4).kept k5 (by simp))
        have HK5 := hide ((unhide HK4).trans k5 (by simp))
        clear k5
        go_wp2_with fail
        refine Calls.mono (refsum_any _ p w5 ((unhide H).old (unhide HK5) (by simp))) ?_
        rintro e w6 ⟨rfl, k6⟩
        have HS6 := hide ((unhide HS5).kept k6 (by simp))
        have HK6 := hide ((unhide HK5).trans k6 (by simp))
        clear k6
        have hhl := hash_len p
        obtain ⟨D, hD⟩ : ∃ D, hash p = D := ⟨_, rfl⟩
        have HDD := hide hD
        rw [hD] at hhl
        have hqq := fun W => row_eq W D D hhl hhl
        simp only [decide_true] at hqq
        rw [hD]
        clear hD
        go_wp2_with fail
        refine Calls.mono (ssum_any g _ w6 (unhide HS6) (by omega) ((unhide HT).k (unhide HK6))) ?_
        rintro e w7 ⟨rfl, k7⟩
        have HK7 := hide ((unhide HK6).trans k7 (by simp))
        clear k7
        rw [unhide HDD]
        go_wp2_with fail
        refine Calls.mono (ltwin_any _ p w7 ((unhide H).old (unhide HK7) (by simp))) ?_
        rintro e w8 ⟨rfl, k8, h8⟩
        have HK8 := hide ((unhide HK7).trans k8 (by simp))
        have HP8 := hide (rd_fresh h8 (unhide H).byte hl)
        clear k8 h8
        go_wp2_with fail
        refine Calls.mono (sum256_any _ p w8 (unhide HP8) hl ((unhide HT).k (unhide HK8))) ?_
        rintro e w9 ⟨rfl, k9⟩
        have HK9 := hide ((unhide HK8).trans k9 (by simp))
        clear k9
        rw [unhide HDD]
        go_wp2
        go_ret
        exact ⟨rfl, (unhide HK9).below (Nat.le_refl _) (by simp)⟩
end Go.Proofs.YtnimfbbhhdgepaaDoor
