import Derived.Test.YtgnbigijpneebaaDoorDOp
namespace Go.Proofs.YtgnbigijpneebaaDoor
open Go.RowKit Go.BigFrame
set_option linter.unusedVariables false
set_option linter.unusedSimpArgs false

theorem range_tail {w : World} {g n s : Nat} {l m : List Nat} (h : w.rangeAt g n (rootC s l m)) : w.rangeAt g (n + 1) (l.map u8) ∧ w.rangeAt g (n + 1 + (l.map u8).length) (m.map u8) := by
  constructor
  · intro j v hv
    have hj := (List.getElem?_eq_some_iff.1 hv).1
    have := h (j + 1) v (by unfold rootC; rw [List.getElem?_cons_succ, List.getElem?_append_left hj, hv])
    rw [show n + 1 + j = n + (j + 1) by omega]; exact this
  · intro j v hv
    have := h ((l.map u8).length + j + 1) v (by unfold rootC; rw [List.getElem?_cons_succ, List.getElem?_append_right (by omega), Nat.add_sub_cancel_left, hv])
    rw [show n + 1 + (l.map u8).length + j = n + ((l.map u8).length + j + 1) by omega]; exact this

set_option maxRecDepth 100000 in
set_option maxHeartbeats 2000000 in
theorem doc_any (o : OpD) (pv kv dv : Value) (w : World) (h : OkD w o pv kv dv) (hk : 1 ≤ o.kd ∧ o.kd ≤ 6) :
    Calls Tryd.prog 12 #[.agg (opC o pv kv dv).toArray] w fun e w' => ∃ v, e = .returned (.tuple #[v, .int .i64 (inE o)]) ∧ Rd w' v (if inE o = 0 then inB o else []) ∧ Kept [] w w' := by
  have H := hide h
  have HG := hide (heap_alloc_new w (.cells (opC o pv kv dv).toArray 34))
  obtain ⟨⟨c0, c1, c2⟩, r3, r35, ⟨c67, c68, c69⟩, r70⟩ := op_cells (unhide HG) h.l.1 h.r.1
  have HK0 := hide ((Kept.refl [] w).alloc (.cells (opC o pv kv dv).toArray 34))
  have HH := hide (h.old (unhide HK0))
  have R3 := hide r3
  have R35 := hide r35
  have R70 := hide r70
  clear r3 r35 r70 h
  have SD := hide Tryd.size_dig
  have HSL := hide (by rw [List.length_map, (unhide H).l.1]; exact Tryd.size_dig : (Tryd.prog.info? 26).map (·.size) = some (o.l.map u8).length)
  have HSR := hide (by rw [List.length_map, (unhide H).r.1]; exact Tryd.size_dig : (Tryd.prog.info? 26).map (·.size) = some (o.r.map u8).length)
  have HSO := hide (by rw [show (rootC o.s o.lg o.mp).length = 65 by simp [rootC, (unhide H).lg.1, (unhide H).mp.1]]; kernel_rfl : (Tryd.prog.info? 32).map (·.size) = some (rootC o.s o.lg o.mp).length)
  have HZ := hide (unhide H).z
  obtain ⟨E, hE⟩ : ∃ E, inE o = E := ⟨_, rfl⟩
  have HE := hide hE
  rw [hE]
  clear hE
  obtain ⟨B, hB⟩ : ∃ B, (if E = 0 then inB o else []) = B := ⟨_, rfl⟩
  have HB := hide hB
  rw [hB]
  clear hB
  go_enter Tryd.func12, Tryd.ntmps12
  clear HG
  rcases (by omega : o.kd = 1 ∨ o.kd = 2 ∨ o.kd = 3 ∨ o.kd = 4 ∨ o.kd = 5 ∨ o.kd = 6) with hkd | hkd | hkd | hkd | hkd | hkd
  · rw [hkd] at c0
    have HE2 := hide (by rw [← unhide HE]; simp [inE, hkd] : E = 0)
    have HB2 := hide (by rw [← unhide HB, unhide HE2]; simp [inB, hkd] : B = 0 :: o.p)
    clear hkd hk
    go_wp2_with fail
    refine Calls.mono (refLeafInput_any _ o.p _ (unhide HH).p (by have := (unhide H).pl; omega)) ?_
    rintro e w1 ⟨v1, rfl, n1, k1⟩
    have HN1 := hide n1
    have HK1 := hide ((unhide HK0).trans k1 (by simp))
    clear n1 k1
    go_wp2
    go_ret2
    exact ⟨_, by rw [unhide HE2]; rfl, by rw [unhide HB2]; exact unhide HN1, unhide HK1⟩
  · rw [hkd] at c0
    have HE2 := hide (by rw [← unhide HE]; simp [inE, hkd] : E = formedE o.z [o.l, o.r])
    have HB2 := hide (by rw [← unhide HB]; simp [inB, hkd] : B = if E = 0 then nodeB o.z o.l o.r else [])
    clear hkd hk
    have hfs : ∀ A : Array Value, (List.foldl (fun cs x => cs.setIfInBounds x.snd x.fst) A (List.map u8 o.l).zipIdx).size = A.size := fun A => fold_size _ A 0
    have hll : o.l.length = 32 := (unhide H).l.1
    have hrl : o.r.length = 32 := (unhide H).r.1
    go_wp2_with (first
      | (refine wpList_load_mid rfl 26 _ rfl w.heap.size 3 rfl (o.l.map u8) _ (unhide R3) Tryd.underlying26 rfl (unhide HSL) ?_)
      | (refine wpList_load_mid rfl 26 _ rfl w.heap.size 35 rfl (o.r.map u8) _ (unhide R35) Tryd.underlying26 rfl (unhide HSR) ?_))
    rw [zb64, two_digs o.l o.r hll hrl]
    clear hfs
    refine Calls.mono (refCheck_any o.z _ [o.l, o.r] _ (unhide HZ) (RdD.two (alloc_at _ _ _) hll hrl (unhide H).l.2 (unhide H).r.2)) ?_
    rintro e w1 ⟨rfl, k1⟩
    rw [← unhide HE2]
    have k01 := ((Kept.refl [] (w.alloc (.cells (opC o pv kv dv).toArray 34))).alloc (.cells (o.l.map u8 ++ o.r.map u8).toArray 26)).trans k1 (by simp)
    have HK1 := hide ((unhide HK0).trans k01 (by simp))
    have S3 := hide (range_kept (unhide R3) k01 (by simp))
    have S35 := hide (range_kept (unhide R35) k01 (by simp))
    have d0 := k01.cell c0 (by simp)
    have d1 := k01.cell c1 (by simp)
    clear k1 k01 c0 c1 c2 c67 c68 c69
    by_cases hE0 : E = 0
    · have hb : ((E : Int) != 0) = false := by rw [hE0]; rfl
      have hw : 1 ≤ o.z ∧ o.z ≤ 32 := by
        have h9 := unhide HE2
        unfold formedE at h9
        cases hw : widthB o.z with
        | false => rw [hw] at h9; simp at h9; omega
        | true => exact width_le hw
      have HE0 := hide hE0
      clear hE0
      have hz9 : ((o.z.toNat : Nat) : Int) = o.z := Int.toNat_of_nonneg (by omega)
      have HZ9 := hide hz9
      clear hz9
      go_wp2_with (first
        | (refine wpList_load_mid rfl 26 _ rfl w.heap.size 3 rfl (o.l.map u8) _ (unhide S3) Tryd.underlying26 rfl (unhide HSL) ?_)
        | (refine wpList_load_mid rfl 26 _ rfl w.heap.size 35 rfl (o.r.map u8) _ (unhide S35) Tryd.underlying26 rfl (unhide HSR) ?_))
      have hc := refNodeInput_any o.z.toNat o.l o.r w1 (by omega) hll hrl (unhide H).l.2 (unhide H).r.2
      rw [unhide HZ9] at hc
      refine Calls.mono hc ?_
      rintro e w2 ⟨v2, rfl, n2, k2⟩
      have HN2 := hide n2
      have HK2 := hide ((unhide HK1).trans k2 (by simp))
      clear n2 k2 hc
      go_wp2
      go_ret2
      exact ⟨_, by rw [unhide HE0]; rfl, by rw [unhide HB2, if_pos (unhide HE0)]; exact unhide HN2, unhide HK2⟩
    · have hb : ((E : Int) != 0) = true := by rw [bne_iff_ne]; omega
      have HE0 := hide hE0
      clear hE0
      go_wp2
      go_ret2
      exact ⟨_, rfl, by rw [unhide HB2, if_neg (unhide HE0)]; exact Rd.nil _, unhide HK1⟩
  · rw [hkd] at c0
    have HE2 := hide (by rw [← unhide HE]; simp [inE, hkd] : E = 0)
    have HB2 := hide (by rw [← unhide HB, unhide HE2]; simp [inB, hkd] : B = 2 :: o.p)
    clear hkd hk
    go_wp2_with fail
    refine Calls.mono (refKeyInput_any _ o.p _ (unhide HH).p (by have := (unhide H).pl; omega)) ?_
    rintro e w1 ⟨v1, rfl, n1, k1⟩
    have HN1 := hide n1
    have HK1 := hide ((unhide HK0).trans k1 (by simp))
    clear n1 k1
    go_wp2
    go_ret2
    exact ⟨_, by rw [unhide HE2]; rfl, by rw [unhide HB2]; exact unhide HN1, unhide HK1⟩
  · rw [hkd] at c0
    have HE2 := hide (by rw [← unhide HE]; simp [inE, hkd] : E = 0)
    have HB2 := hide (by rw [← unhide HB, unhide HE2]; simp [inB, hkd] : B = buckB o.ps)
    clear hkd hk
    go_wp2_with fail
    refine Calls.mono (refBucketInput_any _ o.ps _ (unhide HH).ps (unhide H).psl) ?_
    rintro e w1 ⟨v1, rfl, n1, k1⟩
    have HN1 := hide n1
    have HK1 := hide ((unhide HK0).trans k1 (by simp))
    clear n1 k1
    go_wp2
    go_ret2
    exact ⟨_, by rw [unhide HE2]; rfl, by rw [unhide HB2]; exact unhide HN1, unhide HK1⟩
  · rw [hkd] at c0
    have HE2 := hide (by rw [← unhide HE]; simp [inE, hkd] : E = branchE o.z o.x o.ds)
    have HB2 := hide (by rw [← unhide HB]; simp [inB, hkd] : B = if E = 0 then branchB o.z o.x o.ds else [])
    clear hkd hk
    go_wp2_with fail
    refine Calls.mono (refCheckBranch_any o.z o.x _ o.ds _ (unhide HZ) (unhide H).x (unhide HH).ds) ?_
    rintro e w1 ⟨rfl, k1⟩
    rw [← unhide HE2]
    have HK1 := hide ((unhide HK0).trans k1 (by simp))
    have HD1 := hide ((unhide HH).ds.old k1)
    have d0 := k1.cell c0 (by simp)
    have d1 := k1.cell c1 (by simp)
    have d68 := k1.cell c68 (by simp)
    have d69 := k1.cell c69 (by simp)
    clear k1 c0 c1 c2 c67 c68 c69
    by_cases hE0 : E = 0
    · have hb : ((E : Int) != 0) = false := by rw [hE0]; rfl
      have h9 : formedE o.z o.ds = 0 ∧ o.ds.length ≤ 16 := by
        have h9 := unhide HE2
        rw [hE0] at h9
        unfold branchE at h9
        by_cases hf : formedE o.z o.ds = 0
        · rw [if_pos hf] at h9
          refine ⟨hf, ?_⟩
          by_cases hx : o.x = 0 ∨ ones o.x ≠ o.ds.length
          · rw [if_pos hx] at h9; omega
          · have h8 : ones o.x = o.ds.length := by
              by_cases h7 : ones o.x = o.ds.length
              · exact h7
              · exact absurd (Or.inr h7) hx
            rw [← h8]; exact ones_le _ (unhide H).x
        · rw [if_neg hf] at h9; exact absurd h9.symm hf
      have hw : 1 ≤ o.z ∧ o.z ≤ 32 := by
        have h8 := h9.1
        unfold formedE at h8
        cases hw : widthB o.z with
        | false => rw [hw] at h8; simp at h8
        | true => exact width_le hw
      have HE0 := hide hE0
      have H9 := hide h9.2
      clear hE0 h9
      have hz9 : ((o.z.toNat : Nat) : Int) = o.z := Int.toNat_of_nonneg (by omega)
      have HZ9 := hide hz9
      clear hz9
      go_wp2_with fail
      have hc := refBranchInput_any o.z.toNat o.x dv o.ds w1 (by omega) (unhide H).x (unhide HD1) (unhide H9)
      rw [unhide HZ9] at hc
      refine Calls.mono hc ?_
      rintro e w2 ⟨v2, rfl, n2, k2⟩
      have HN2 := hide n2
      have HK2 := hide ((unhide HK1).trans k2 (by simp))
      clear n2 k2 hc
      go_wp2
      go_ret2
      exact ⟨_, by rw [unhide HE0]; rfl, by rw [unhide HB2, if_pos (unhide HE0)]; exact unhide HN2, unhide HK2⟩
    · have hb : ((E : Int) != 0) = true := by rw [bne_iff_ne]; omega
      have HE0 := hide hE0
      clear hE0
      go_wp2
      go_ret2
      exact ⟨_, rfl, by rw [unhide HB2, if_neg (unhide HE0)]; exact Rd.nil _, unhide HK1⟩
  · rw [hkd] at c0
    have HE2 := hide (by rw [← unhide HE]; simp [inE, hkd] : E = formedE o.z [o.lg, o.mp])
    have HB2 := hide (by rw [← unhide HB]; simp [inB, hkd] : B = if E = 0 then rootB o.z o.s o.lg o.mp else [])
    clear hkd hk
    have R71 := hide (range_tail (unhide R70)).1
    have R103 := hide (by have h9 := (range_tail (unhide R70)).2; rw [List.length_map, (unhide H).lg.1] at h9; exact h9 : (w.alloc (.cells (opC o pv kv dv).toArray 34)).rangeAt w.heap.size 103 (o.mp.map u8))
    have HSL2 := hide (by rw [List.length_map, (unhide H).lg.1]; exact Tryd.size_dig : (Tryd.prog.info? 26).map (·.size) = some (o.lg.map u8).length)
    have HSR2 := hide (by rw [List.length_map, (unhide H).mp.1]; exact Tryd.size_dig : (Tryd.prog.info? 26).map (·.size) = some (o.mp.map u8).length)
    have hfs : ∀ A : Array Value, (List.foldl (fun cs x => cs.setIfInBounds x.snd x.fst) A (List.map u8 o.lg).zipIdx).size = A.size := fun A => fold_size _ A 0
    have hll : o.lg.length = 32 := (unhide H).lg.1
    have hrl : o.mp.length = 32 := (unhide H).mp.1
    go_wp2_with (first
      | (refine wpList_load_mid rfl 26 _ rfl w.heap.size 71 rfl (o.lg.map u8) _ (unhide R71) Tryd.underlying26 rfl (unhide HSL2) ?_)
      | (refine wpList_load_mid rfl 26 _ rfl w.heap.size 103 rfl (o.mp.map u8) _ (unhide R103) Tryd.underlying26 rfl (unhide HSR2) ?_))
    rw [zb64, two_digs o.lg o.mp hll hrl]
    clear hfs
    refine Calls.mono (refCheck_any o.z _ [o.lg, o.mp] _ (unhide HZ) (RdD.two (alloc_at _ _ _) hll hrl (unhide H).lg.2 (unhide H).mp.2)) ?_
    rintro e w1 ⟨rfl, k1⟩
    rw [← unhide HE2]
    have k01 := ((Kept.refl [] (w.alloc (.cells (opC o pv kv dv).toArray 34))).alloc (.cells (o.lg.map u8 ++ o.mp.map u8).toArray 26)).trans k1 (by simp)
    have HK1 := hide ((unhide HK0).trans k01 (by simp))
    have S70 := hide (range_kept (unhide R70) k01 (by simp))
    have d0 := k01.cell c0 (by simp)
    have d1 := k01.cell c1 (by simp)
    clear k1 k01 c0 c1 c2 c67 c68 c69
    by_cases hE0 : E = 0
    · have hb : ((E : Int) != 0) = false := by rw [hE0]; rfl
      have hw : 1 ≤ o.z ∧ o.z ≤ 32 := by
        have h9 := unhide HE2
        unfold formedE at h9
        cases hw : widthB o.z with
        | false => rw [hw] at h9; simp at h9; omega
        | true => exact width_le hw
      have HE0 := hide hE0
      clear hE0
      have hz9 : ((o.z.toNat : Nat) : Int) = o.z := Int.toNat_of_nonneg (by omega)
      have HZ9 := hide hz9
      clear hz9
      go_wp2_with (refine wpList_load_mid rfl 32 _ rfl w.heap.size 70 rfl (rootC o.s o.lg o.mp) _ (unhide S70) Tryd.underlying32 rfl (unhide HSO) ?_)
      have hc := refRootInput_any o.z.toNat o.s o.lg o.mp w1 (by omega) (unhide H).s hll hrl (unhide H).lg.2 (unhide H).mp.2
      rw [unhide HZ9] at hc
      refine Calls.mono hc ?_
      rintro e w2 ⟨v2, rfl, n2, k2⟩
      have HN2 := hide n2
      have HK2 := hide ((unhide HK1).trans k2 (by simp))
      clear n2 k2 hc
      go_wp2
      go_ret2
      exact ⟨_, by rw [unhide HE0]; rfl, by rw [unhide HB2, if_pos (unhide HE0)]; exact unhide HN2, unhide HK2⟩
    · have hb : ((E : Int) != 0) = true := by rw [bne_iff_ne]; omega
      have HE0 := hide hE0
      clear hE0
      go_wp2
      go_ret2
      exact ⟨_, rfl, by rw [unhide HB2, if_neg (unhide HE0)]; exact Rd.nil _, unhide HK1⟩
end Go.Proofs.YtgnbigijpneebaaDoor
