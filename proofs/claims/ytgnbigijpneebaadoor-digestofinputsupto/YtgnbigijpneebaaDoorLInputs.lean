import Derived.Test.YtgnbigijpneebaaDoorDDoc2
namespace Go.Proofs.YtgnbigijpneebaaDoor
open Go.RowKit Go.BigFrame
set_option linter.unusedVariables false
set_option linter.unusedSimpArgs false

def zop : Array Value := (opC ⟨0, 0, [], List.replicate 32 0, List.replicate 32 0, [], 0, [], 0, List.replicate 32 0, List.replicate 32 0⟩ (.slice none 0 0) (.slice none 0 0) (.slice none 0 0)).toArray
theorem Tryd.zero_op : (Tryd.prog.info? 34).map (fun i => (i.zero, i.size)) = some (some (.agg zop), 135) := by kernel_rfl
theorem zero_op (W : World) : (zeroValue 34).run Tryd.prog W = .ok (.agg zop) W := (zero_of_info Tryd.zero_op).1 W
theorem Tryd.size_op : (Tryd.prog.info? 34).map (·.size) = some 135 := by kernel_rfl
theorem zop_size : zop.size = 135 := by unfold zop; rfl
theorem opC_len {o : OpD} {pv kv dv : Value} (h1 : o.l.length = 32) (h2 : o.r.length = 32) (h3 : o.lg.length = 32) (h4 : o.mp.length = 32) : (opC o pv kv dv).length = 135 := by
  simp [opC, rootC, h1, h2, h3, h4]
theorem opC_one {o : OpD} {pv kv dv : Value} {w : World} (h : OkD w o pv kv dv) : (opC o pv kv dv).toArray.all (·.oneCell') = true := by
  obtain ⟨a1, n1, c1, rfl, _⟩ := h.p
  obtain ⟨a2, n2, c2, _, _, rfl, _⟩ := h.ps
  obtain ⟨a3, n3, c3, rfl, _⟩ := h.ds
  rw [Array.all_eq_true_iff_forall_mem]
  intro v hv
  simp [opC, rootC] at hv
  rcases hv with rfl | rfl | rfl | ⟨x, _, rfl⟩ | ⟨x, _, rfl⟩ | rfl | rfl | rfl | rfl | ⟨x, _, rfl⟩ | ⟨x, _, rfl⟩ <;> rfl

/-- The slice value v reads as these Ops. -/
def RdO (w : World) (v : Value) (os : List OpD) : Prop :=
  ∃ (ao : Option Addr) (len cap : Nat) (pv kv dv : Nat → Value), v = .slice ao len cap ∧ os.length = len ∧ len ≤ cap ∧ cap ≤ 9223372036854775807 ∧ (∀ i (h : i < os.length), OkD w os[i] (pv i) (kv i) (dv i)) ∧
    (0 < len → ∃ b off, ao = some ⟨b, off, none⟩ ∧ ∀ i (h : i < os.length), w.rangeAt b (off + i * 135) (opC os[i] (pv i) (kv i) (dv i)))

set_option maxRecDepth 100000 in
set_option maxHeartbeats 1000000 in
theorem known_any (o : OpD) (pv kv dv : Value) (w : World) (h : OkD w o pv kv dv) :
    Calls Tryd.prog 10 #[.agg (opC o pv kv dv).toArray] w fun e w' => e = .returned (.bool (decide (1 ≤ o.kd ∧ o.kd ≤ 6))) ∧ Kept [] w w' := by
  have HG := hide (heap_alloc_new w (.cells (opC o pv kv dv).toArray 34))
  obtain ⟨⟨c0, c1, c2⟩, r3, r35, ⟨c67, c68, c69⟩, r70⟩ := op_cells (unhide HG) h.l.1 h.r.1
  have HK0 := hide ((Kept.refl [] w).alloc (.cells (opC o pv kv dv).toArray 34))
  clear r3 r35 r70 c1 c2 c67 c68 c69 HG h
  obtain ⟨K, hK⟩ : ∃ K, decide (1 ≤ o.kd ∧ o.kd ≤ 6) = K := ⟨_, rfl⟩
  rw [hK]
  have HKK := hide hK
  clear hK
  go_enter Tryd.func10, Tryd.ntmps10
  by_cases h1 : 1 ≤ o.kd
  · by_cases h2 : o.kd ≤ 6
    · have HD := hide (by rw [← unhide HKK]; simp [h1, h2] : K = true)
      go_wp2
      go_ret
      exact ⟨by rw [unhide HD]; rfl, unhide HK0⟩
    · have HD := hide (by rw [← unhide HKK]; simp [h1, h2] : K = false)
      go_wp2
      go_ret
      exact ⟨by rw [unhide HD]; rfl, unhide HK0⟩
  · have HD := hide (by rw [← unhide HKK]; simp [h1] : K = false)
    go_wp2
    go_ret
    exact ⟨by rw [unhide HD]; rfl, unhide HK0⟩

set_option maxRecDepth 100000 in
set_option maxHeartbeats 2000000 in
theorem digestInputs_walk (v : Value) (os : List OpD) (w : World) (hv : RdO w v os) (hT : Tabs w) :
    Calls Tryd.prog 3 #[v] w fun e w' => e = .returned (.bool true) ∧ Below w.heap.size w w' := by
  obtain ⟨ao, len, cap, pv, kv, dv, rfl, h1, h2, h3, h4, h5⟩ := hv
  have H4 := hide h4
  have H5 := hide h5
  clear h4 h5
  subst h1
  have HT := hide hT
  clear hT
  have hz0 := zero_op
  go_enter Tryd.func3, Tryd.ntmps3
  go_wp2_with fail
  refine Calls.mono (dawake_any _ (unhide HT)) ?_
  rintro e w1 ⟨rfl, k1⟩
  have HK1 := hide k1
  clear k1
  go_wp2_with fail
  go_loopw [13] (fun t13 wr => ∃ (i : Nat), i ≤ os.length ∧ t13 = .int .i64 i ∧ Hid (Kept [] w wr)) (fun t _ => os.length - (intOf t).toNat)
  case atStart => exact ⟨0, Nat.zero_le _, rfl, HK1⟩
  case round =>
    obtain ⟨i, hi, rfl, HK⟩ := hrel
    by_cases hlt : i < os.length
    · have hlt' : (i : Int) < os.length := by omega
      obtain ⟨b, off, rfl, hcc⟩ := unhide H5 (by omega)
      have HRG := hide (range_kept (hcc i hlt) (unhide HK) (by simp))
      have HO := hide ((unhide H4 i hlt).old (unhide HK))
      clear hcc
      generalize pv i = pi at HRG HO
      generalize kv i = ki at HRG HO
      generalize dv i = di at HRG HO
      generalize os[i] = o at HRG HO
      have hcl := opC_len (pv := pi) (kv := ki) (dv := di) (unhide HO).l.1 (unhide HO).r.1 (unhide HO).lg.1 (unhide HO).mp.1
      have HC1 := hide (opC_one (unhide HO))
      have HSZ := hide (by rw [hcl]; exact Tryd.size_op : (Tryd.prog.info? 34).map (·.size) = some (opC o pi ki di).length)
      have HSA := hide (by rw [List.size_toArray, hcl]; exact Tryd.size_op : (Tryd.prog.info? 34).map (·.size) = some (opC o pi ki di).toArray.size)
      have HZA := hide (by rw [zop_size, List.size_toArray, hcl] : zop.size = (opC o pi ki di).toArray.size)
      have k1 := (((Kept.refl [] wr).alloc (.cells zop 34)).setRow (g := wr.heap.size) (Or.inr (Nat.le_refl _)) (opC o pi ki di).toArray)
      have HNW := hide (setRow_heap (wr.alloc (.cells zop 34)) wr.heap.size zop (opC o pi ki di).toArray 34 (0, 0) (heap_alloc_new _ _))
      have HKW := hide ((unhide HK).trans k1 (by simp))
      have HOW := hide ((unhide HO).old k1)
      clear k1 hcl
      go_wp2_with (first
        | (refine wpList_load_mid rfl 34 _ rfl b (off + i * 135) rfl (opC o pi ki di) _ (unhide HRG) Tryd.underlying34 rfl (unhide HSZ) ?_)
        | (refine wpList_store_row rfl 34 (.tmp 4) _ rfl wr.heap.size (opC o pi ki di).toArray rfl rfl _ zop (heap_alloc_new _ _) (unhide HSA) (unhide HZA) (unhide HC1) ?_)
        | (refine wpList_load_row rfl 34 (.tmp 4) rfl wr.heap.size rfl _ (opC o pi ki di).toArray (0, 0) _ (unhide HNW) Tryd.underlying34 rfl (unhide HSA) ?_))
      refine Calls.mono (known_any o pi ki di _ (unhide HOW)) ?_
      rintro e w2 ⟨rfl, k2⟩
      have HK2 := hide ((unhide HKW).trans k2 (by simp))
      have HN2 := hide (k2.heap (unhide HNW) (by simp))
      have HO2 := hide ((unhide HOW).old k2)
      clear k2
      by_cases hk : 1 ≤ o.kd ∧ o.kd ≤ 6
      · rw [decide_eq_true hk]
        go_wp2_with (refine wpList_load_row rfl 34 (.tmp 4) rfl wr.heap.size rfl _ (opC o pi ki di).toArray (0, 0) _ (unhide HN2) Tryd.underlying34 rfl (unhide HSA) ?_)
        refine Calls.mono (input_any o pi ki di _ (unhide HO2) hk) ?_
        rintro e w3 ⟨v3, rfl, n3, k3⟩
        have HK3 := hide ((unhide HK2).trans k3 (by simp))
        have HN3 := hide (k3.heap (unhide HN2) (by simp))
        have HO3 := hide ((unhide HO2).old k3)
        have HP3 := hide n3.1
        clear n3 k3
        obtain ⟨E, hE⟩ : ∃ E, inE o = E := ⟨_, rfl⟩
        have HE := hide hE
        obtain ⟨B, hB⟩ : ∃ B, (if E = 0 then inB o else []) = B := ⟨_, rfl⟩
        have HB := hide hB
        rw [hE, hB] at HP3
        rw [hE]
        clear hE hB
        obtain ⟨a3, m3, c3, rfl, _⟩ := id (unhide HP3)
        go_wp2_with (refine wpList_load_row rfl 34 (.tmp 4) rfl wr.heap.size rfl _ (opC o pi ki di).toArray (0, 0) _ (unhide HN3) Tryd.underlying34 rfl (unhide HSA) ?_)
        refine Calls.mono (doc_any o pi ki di _ (unhide HO3) hk) ?_
        rintro e w4 ⟨v4, rfl, r4, k4⟩
        rw [unhide HE] at r4 ⊢
        rw [unhide HB] at r4
        have HK4 := hide ((unhide HK3).trans k4 (by simp))
        have HP4 := hide ((unhide HP3).old k4 (by simp))
        have HR4 := hide r4
        obtain ⟨a4, m4, c4, rfl, _⟩ := id r4
        clear r4 k4
        go_wp2_with fail
        refine Calls.mono (same_any _ _ B B _ (unhide HP4) (unhide HR4)) ?_
        rintro e w5 ⟨rfl, n5, rfl⟩
        rw [decide_eq_true rfl]
        go_wp2
        refine ⟨⟨i + 1, by omega, by go_num, hide ((unhide HK4).drewN n5)⟩, ?_⟩
        simp [intOf]; omega
      · rw [decide_eq_false hk]
        clear hk
        go_wp2
        refine ⟨⟨i + 1, by omega, by go_num, HK2⟩, ?_⟩
        simp [intOf]; omega
    · have hlt' : ¬ (i : Int) < os.length := by omega
      go_wp2
      go_ret
      exact ⟨rfl, (unhide HK).below (Nat.le_refl _) (by simp)⟩
end Go.Proofs.YtgnbigijpneebaaDoor
