import Derived.Test.YtgnbigijpneebaaDoorDBuck
import Derived.Test.YtgnbigijpneebaaDoorRUvar
namespace Go.Proofs.YtgnbigijpneebaaDoor
open Go.RowKit Go.BigFrame
set_option linter.unusedVariables false
set_option linter.unusedSimpArgs false

set_option maxRecDepth 100000 in
set_option maxHeartbeats 1000000 in
theorem refBucketInput_any (v : Value) (ps : List (List Nat × List Nat)) (w : World) (h : RdK w v ps) (hl : (pairB ps).length ≤ 1000000000000) :
    Calls Tryd.prog 39 #[v] w fun e w' => ∃ v', e = .returned v' ∧ Rd w' v' (buckB ps) ∧ Kept [] w w' := by
  obtain ⟨ao, len, cap, vs, us, rfl, h1, h3, h4, h5, h6⟩ := h
  have H5 := hide h5
  have H6 := hide h6
  clear h5 h6
  subst h1
  go_enter Tryd.func39, Tryd.ntmps39
  have HUV := hide (uv_len ps.length (by omega))
  go_wp2_with fail
  refine Calls.mono (refUvar_any ps.length _ (by omega)) ?_
  rintro e w1 ⟨v1, rfl, r1, k1, _⟩
  have HR1 := hide r1
  have k01 := ((Kept.refl [] w).alloc _).trans k1 (by simp)
  have HK1 := hide k01
  have HR0 := hide ((rd_lit1 [3] (heap_alloc_new w (.cells #[.int .u8 3] 5)) rfl (by decide) 1 rfl (by decide)).old k1 (by simp))
  clear r1 k1 k01
  go_wp2_with fail
  refine Calls.mono (join_own _ _ [3] (uv ps.length) _ (unhide HR0) (unhide HR1) (by have := unhide HUV; simp; omega)) ?_
  rintro e w2 ⟨v2, rfl, o2, k2⟩
  have HO2 := hide o2
  have HS2 := hide ((unhide HK1).size)
  have HK2 := hide ((unhide HK1).trans k2 (by simp))
  obtain ⟨ao2, cap2, hu2⟩ := owns_shape o2
  subst hu2
  have hzz := k2.size
  clear o2 k2
  obtain ⟨B0, hB0⟩ : ∃ B0, w1.heap.size = B0 := ⟨_, rfl⟩
  rw [hB0] at HO2 HS2 hzz
  clear hB0
  go_wp2_with fail
  go_loopw [3, 14] (fun t3 t14 wr => ∃ (i : Nat) (cur : List Nat) (ao : Option Addr) (cap : Nat), i ≤ ps.length ∧ t14 = .int .i64 i ∧ t3 = .slice ao cur.length cap ∧ Hid (cur = 3 :: uv ps.length ++ pairB (ps.take i)) ∧ Hid (wr.ownsRow B0 5 1 (.slice ao cur.length cap) cur.length (cur.map u8)) ∧ Hid (∀ z ∈ cur, z < 256) ∧ Hid (Kept [] w wr) ∧ B0 ≤ wr.heap.size) (fun _ t _ => ps.length - (intOf t).toNat)
  case atStart => exact ⟨0, [3] ++ uv ps.length, ao2, cap2, Nat.zero_le _, rfl, by simp, hide (by simp [pairB]), hide (by simpa using unhide HO2), hide (by intro z hz; rcases List.mem_append.1 hz with h | h; simp at h; omega; exact uv_byte _ z h), HK2, hzz⟩
  case round =>
    obtain ⟨i, cur, aoc, capc, hi, rfl, rfl, HCUR, HO, HCB, HK, hb0⟩ := hrel
    by_cases hlt : i < ps.length
    · have hlt' : (i : Int) < ps.length := by omega
      obtain ⟨b, off, rfl, hcc⟩ := unhide H6 (by omega)
      have q1 := (unhide HK).cell (hcc i hlt).1 (by simp)
      have q2 := (unhide HK).cell (hcc i hlt).2 (by simp)
      have HA := hide (unhide H5 i hlt)
      have hget : ps.getD i ([], []) = ps[i] := by rw [List.getD_eq_getElem?_getD, List.getElem?_eq_getElem hlt]; rfl
      rw [hget] at HA
      have HSN := hide (pairB_snoc ps i hlt)
      have HLE := hide (pairB_le ps (i + 1))
      clear hcc hget
      generalize vs.getD i undef = vi at q1 HA
      generalize us.getD i undef = ui at q2 HA
      generalize ps[i] = pi at HA HSN
      obtain ⟨pk, pv⟩ := pi
      simp only at HA HSN
      rw [unhide HSN] at HLE
      have HLE2 := hide (by have h9 := unhide HLE; have h8 := unhide HUV; rw [unhide HCUR]; simp only [List.length_append, List.length_cons] at h9 ⊢; omega : cur.length + (uv pk.length).length + pk.length + (uv pv.length).length + pv.length ≤ 1000000000100)
      obtain ⟨a8, m8, c8, rfl, hm8, _⟩ := id (unhide HA).1
      obtain ⟨a9, m9, c9, rfl, hm9, _⟩ := id (unhide HA).2
      subst hm8
      subst hm9
      go_wp2_with fail
      have k1 := (Kept.refl [] wr).alloc (.cells #[.slice a8 pk.length c8, .slice a9 pv.length c9] 86)
      have HCW := hide (heap_alloc_new wr (.cells #[.slice a8 pk.length c8, .slice a9 pv.length c9] 86))
      obtain ⟨W, hW⟩ : ∃ W, wr.alloc (.cells #[.slice a8 pk.length c8, .slice a9 pv.length c9] 86) = W := ⟨_, rfl⟩
      rw [hW] at k1 HCW ⊢
      clear hW
      have HOW := hide (k1.owns (unhide HO) (by simp))
      have HKW := hide ((unhide HK).trans k1 (by simp))
      have HC1 := hide (by rw [cell_of_row _ _ _ _ _ _ (unhide HCW)]; rfl : W.cell? ⟨wr.heap.size, 1, none⟩ = some (.slice a9 pv.length c9))
      have hbW := Nat.le_trans hb0 k1.size
      clear k1
      refine Calls.mono (refBlob_any _ pk _ ((unhide HA).1.old (unhide HKW) (by simp)) (by have := unhide HLE2; omega)) ?_
      rintro e w3 ⟨v3, rfl, r3, k3, _⟩
      obtain ⟨a3, m3, c3, hu3, hm3, _⟩ := id r3
      subst hu3
      have HR3 := hide r3
      have HO3 := hide (k3.owns (unhide HOW) (by simp))
      have HK3 := hide ((unhide HKW).trans k3 (by simp))
      have HK3W := hide k3
      have hb3 := Nat.le_trans hbW k3.size
      clear r3 k3
      have hnin : wr.heap.size ∉ (Value.slice aoc cur.length capc).ownBlock.toList := by
        intro hx
        have := ((unhide HO).lt wr.heap.size (by simpa [Option.mem_toList] using hx)).2
        omega
      have HNI := hide hnin
      have HLU := hide ((unhide HO).lt)
      clear hnin
      go_wp2_with (at_builtin; go_must (refine wpList_appendAll rfl _ _ rfl rfl _ B0 (.slice aoc cur.length capc) cur (uv pk.length ++ pk) _ _ _ (by exact unhide HO3) (by exact unhide HR3) (by have := unhide HLE2; simp only [List.length_append]; omega) hb3 rfl rfl ?_; intro ao4 cap4 w4 HO4 HG4 HA4; have c4 := (((unhide HK3W).mono (M := (Value.slice aoc cur.length capc).ownBlock.toList) (by simp)).grown (unhide HG4) (by intro k hk; left; simpa [Option.mem_toList] using hk)).cell (unhide HC1) (unhide HNI); have HK4 := hide ((unhide HK3).grown (unhide HG4) (by intro k hk; right; have := ((unhide HO).lt k hk).1; have := unhide HS2; omega)); have hb4 := (unhide HG4).size))
      have hm3' : m3 = (uv pk.length ++ pk).length := by rw [← hm3]
      subst hm3'
      rw [← List.length_append] at HO4 ⊢
      have HC4 := hide (by intro z hz; rcases List.mem_append.1 hz with h | h; exact unhide HCB z h; exact (unhide HR3).byte z h : ∀ z ∈ cur ++ (uv pk.length ++ pk), z < 256)
      obtain ⟨cur4, hcur4⟩ : ∃ c, cur ++ (uv pk.length ++ pk) = c := ⟨_, rfl⟩
      rw [hcur4] at HO4 HC4 ⊢
      have hl4 : cur4.length = cur.length + ((uv pk.length).length + pk.length) := by rw [← hcur4]; simp
      have HL4 := hide hl4
      have HQ4 := hide hcur4
      have hb5 := Nat.le_trans hb3 hb4
      clear hl4 hcur4
      go_wp2_with fail
      refine Calls.mono (refBlob_any _ pv _ ((unhide HA).2.old (unhide HK4) (by simp)) (by have := unhide HLE2; omega)) ?_
      rintro e w5 ⟨v5, rfl, r5, k5, _⟩
      obtain ⟨a5, m5, c5, hu5, hm5, _⟩ := id r5
      subst hu5
      have HR5 := hide r5
      have HO5 := hide (k5.owns (unhide HO4) (by simp))
      have HK5 := hide ((unhide HK4).trans k5 (by simp))
      have hb6 := Nat.le_trans hb5 k5.size
      clear r5 k5
      go_wp2_with (at_builtin; go_must (refine wpList_appendAll rfl _ _ rfl rfl _ B0 (.slice ao4 cur4.length cap4) cur4 (uv pv.length ++ pv) _ _ _ (by exact unhide HO5) (by exact unhide HR5) (by have := unhide HLE2; have := unhide HL4; simp only [List.length_append]; omega) hb6 rfl rfl ?_; intro ao6 cap6 w6 HO6 HG6 HA6; have HK6 := hide ((unhide HK5).grown (unhide HG6) (by intro k hk; right; have := ((unhide HO4).lt k hk).1; have := unhide HS2; omega)); have hb7 := (unhide HG6).size))
      have hm5' : m5 = (uv pv.length ++ pv).length := by rw [← hm5]
      subst hm5'
      refine ⟨⟨i + 1, cur4 ++ (uv pv.length ++ pv), ao6, cap6, by omega, by go_num, by simp only [List.length_append], hide (by rw [unhide HSN, ← unhide HQ4, unhide HCUR]; simp only [List.append_assoc]), hide (by have h5 := unhide HO6; rw [← List.length_append] at h5; exact h5), hide (by intro z hz; rcases List.mem_append.1 hz with h | h; exact unhide HC4 z h; exact (unhide HR5).byte z h), HK6, Nat.le_trans hb6 hb7⟩, ?_⟩
      simp [intOf]; omega
    · have hlt' : ¬ (i : Int) < ps.length := by omega
      have hie : i = ps.length := by omega
      subst hie
      rw [List.take_length] at HCUR
      go_wp2_with fail
      go_ret
      refine ⟨_, rfl, ?_, unhide HK⟩
      have h5 := rd_owns (unhide HO) (unhide HCB) (by have := unhide HUV; rw [unhide HCUR]; simp only [List.length_append, List.length_cons]; omega)
      rw [show buckB ps = cur from by rw [unhide HCUR]; rfl]
      exact h5
end Go.Proofs.YtgnbigijpneebaaDoor
