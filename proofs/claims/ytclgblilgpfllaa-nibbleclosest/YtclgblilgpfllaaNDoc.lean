import Derived.Test.YtclgblilgpfllaaNPair
namespace Go.Proofs.Ytclgblilgpfllaa
open Go.RowKit Go.BigFrame
set_option linter.unusedVariables false
set_option linter.unusedSimpArgs false

theorem wid_of {z : Int} {ds : List (List Nat)} (h : formedE z ds = 0) : ∃ k : Nat, z = k ∧ 1 ≤ k ∧ k ≤ 32 := by
  have hw : widthB z = true := by
    unfold formedE at h
    cases hw : widthB z with
    | false => rw [hw] at h; simp at h
    | true => rfl
  simp [widthB] at hw
  exact ⟨z.toNat, by omega, by omega, by omega⟩

set_option maxRecDepth 100000 in
set_option maxHeartbeats 1000000 in
theorem docAt_any (z : Int) (d : List Nat) (i : Int) (w : World) (hz : -9223372036854775808 ≤ z ∧ z ≤ 9223372036854775807) (hi : -9223372036854775808 ≤ i ∧ i ≤ 9223372036854775807) (hd : Dg d) :
    Calls Try.prog 11 #[.int .i64 z, .agg (brow d), .int .i64 i] w fun e w' => e = .returned (.tuple #[.int .i64 (atC z d i : Int), .int .i64 (atE z d i : Int)]) ∧ Kept [] w w' := by
  have HD := hide hd
  have hdl := hd.1
  have HGA := hide (heap_alloc_new w (.cells (brow d) 23))
  have HK0 := hide ((Kept.refl [] w).alloc (.cells (brow d) 23))
  have HE := hide (rfl : atE z d i = atE z d i)
  by_cases hw : widthB z = true
  · have hw2 := hw
    simp [widthB] at hw2
    have hZ : IntKind.i64.wrap (2 * z) = 2 * z := by simp [IntKind.wrap, IntKind.signed, IntKind.bits]; omega
    by_cases h0 : i < 0
    · have e1 : atE z d i = 1 := by unfold atE; rw [if_pos (by omega)]
      have e2 : atC z d i = 0 := by unfold atC; rw [e1]; rfl
      rw [e1, e2]
      clear e1 e2
      go_enter Try.func11, Try.ntmps11
      go_wp2_with fail
      refine Calls.mono (rwidth_any z _ hz) ?_
      rintro e w1 ⟨rfl, rfl⟩
      rw [hw]
      go_wp2
      go_ret2
      exact ⟨rfl, unhide HK0⟩
    · by_cases h1 : 2 * z ≤ i
      · have e1 : atE z d i = 1 := by unfold atE; rw [if_pos (by omega)]
        have e2 : atC z d i = 0 := by unfold atC; rw [e1]; rfl
        rw [e1, e2]
        clear e1 e2
        go_enter Try.func11, Try.ntmps11
        go_wp2_with fail
        refine Calls.mono (rwidth_any z _ hz) ?_
        rintro e w1 ⟨rfl, rfl⟩
        rw [hw]
        go_wp2
        go_ret2
        exact ⟨rfl, unhide HK0⟩
      · have e0 : atE z d i = formedE z [d] := by
          rw [formedE_one]; unfold atE; rw [if_neg (by rw [hw]; simp; omega), hw]; simp
        have HC := hide (by unfold atC; rw [e0] : atC z d i = if formedE z [d] = 0 then dgt d i.toNat else 0)
        obtain ⟨k, rfl⟩ : ∃ k : Nat, z = k := ⟨z.toNat, by omega⟩
        obtain ⟨j, rfl⟩ : ∃ j : Nat, i = j := ⟨i.toNat, by omega⟩
        rw [e0]
        obtain ⟨f, hf⟩ : ∃ f, formedE (k : Int) [d] = f := ⟨_, rfl⟩
        obtain ⟨C, hC⟩ : ∃ C, atC (k : Int) d (j : Int) = C := ⟨_, rfl⟩
        have HFF := hide hf
        rw [hf, hC, Int.toNat_natCast] at HC
        rw [hf, hC]
        clear hf hC e0 HE
        have HGet := hide (digsL_get d k j (by omega))
        have HLen := hide (digsL_len d k)
        go_enter Try.func11, Try.ntmps11
        go_wp2_with fail
        refine Calls.mono (rwidth_any k _ hz) ?_
        rintro e w1 ⟨rfl, rfl⟩
        rw [hw]
        go_wp2_with (refine wpList_load_mid rfl 23 _ rfl w.heap.size 0 rfl (d.map u8) _ (range_row (unhide HGA)) Try.underlying23 rfl (by rw [List.length_map, hdl]; exact Try.size_dig) ?_)
        rw [zb32, one_dig d hdl]
        refine Calls.mono (rcheck_any k _ [d] _ hz (RdD.one (alloc_at _ _ _) hd)) ?_
        rintro e w1 ⟨rfl, k1⟩
        have k01 := ((Kept.refl [] (w.alloc (.cells (brow d) 23))).alloc (.cells (brow d) 23)).trans k1 (by simp)
        have HK1 := hide ((unhide HK0).trans k01 (by simp))
        have HG1 := hide (k01.heap (unhide HGA) (by simp))
        clear k1 k01 HGA
        rw [unhide HFF]
        by_cases hf0 : f = 0
        · subst hf0
          rw [if_pos rfl] at HC
          clear HFF
          go_wp2_with (refine wpList_load_row rfl 23 _ rfl w.heap.size rfl _ (brow d) (0, 0) _ (unhide HG1) Try.underlying23 rfl (by rw [brow_size, hdl]; exact Try.size_dig) ?_)
          refine Calls.mono (digits_any k d _ (by omega) hd) ?_
          rintro e w2 ⟨v2, rfl, r2, k2⟩
          have HK2 := hide ((unhide HK1).trans k2 (by simp))
          obtain ⟨ao, cap, rfl, hc1, hc2, hcl⟩ := r2
          rw [unhide HLen] at hc1 hcl ⊢
          obtain ⟨g, off, rfl, hcell⟩ := hcl (by omega)
          have cj := hcell j (by omega)
          rw [unhide HGet, ← unhide HC] at cj
          have hjk : (j : Int) < ((2 * k : Nat) : Int) := by omega
          clear hcell hcl k2
          go_wp2
          go_ret2
          exact ⟨rfl, unhide HK2⟩
        · have hf0' : ((f : Int) != 0) = true := by rw [bne_iff_ne]; omega
          rw [if_neg hf0] at HC
          clear HFF
          go_wp2
          go_ret2
          exact ⟨by rw [unhide HC]; rfl, unhide HK1⟩
  · have e1 : atE z d i = 1 := by unfold atE; rw [if_pos (by simp at hw; simp [hw])]
    have e2 : atC z d i = 0 := by unfold atC; rw [e1]; rfl
    rw [e1, e2]
    clear e1 e2
    have hw' : widthB z = false := by simpa using hw
    go_enter Try.func11, Try.ntmps11
    go_wp2_with fail
    refine Calls.mono (rwidth_any z _ hz) ?_
    rintro e w1 ⟨rfl, rfl⟩
    rw [hw']
    go_wp2
    go_ret2
    exact ⟨rfl, unhide HK0⟩

set_option maxRecDepth 100000 in
set_option maxHeartbeats 1000000 in
theorem docCommon_any (z : Int) (a b : List Nat) (w : World) (hz : -9223372036854775808 ≤ z ∧ z ≤ 9223372036854775807) (ha : Dg a) (hb : Dg b) :
    Calls Try.prog 13 #[.int .i64 z, .agg (brow a), .agg (brow b)] w fun e w' => e = .returned (.tuple #[.int .i64 (comC z a b : Int), .int .i64 (formedE z [a, b] : Int)]) ∧ Kept [] w w' := by
  have HA := hide ha
  have HB := hide hb
  have hal := ha.1
  have hbl := hb.1
  have HGA := hide (((Kept.refl [] (w.alloc (.cells (brow a) 23))).alloc (.cells (brow b) 23)).heap (heap_alloc_new w (.cells (brow a) 23)) (by simp))
  have HGB := hide (alloc_at w (.cells (brow a) 23) (.cells (brow b) 23))
  have HK0 := hide (((Kept.refl [] w).alloc (.cells (brow a) 23)).alloc (.cells (brow b) 23))
  have HI := hide (fun (h : formedE z [a, b] = 0) => wid_of h : formedE z [a, b] = 0 → ∃ k : Nat, z = k ∧ 1 ≤ k ∧ k ≤ 32)
  have HC := hide (by unfold comC; rfl : comC z a b = if formedE z [a, b] = 0 then comL a b (2 * z.toNat) 0 else 0)
  obtain ⟨f, hf⟩ : ∃ f, formedE z [a, b] = f := ⟨_, rfl⟩
  obtain ⟨C, hC⟩ : ∃ C, comC z a b = C := ⟨_, rfl⟩
  have HFF := hide hf
  rw [hf, hC] at HC
  rw [hf] at HI
  rw [hf, hC]
  clear hf hC
  have hfs : ∀ A : Array Value, (List.foldl (fun cs x => cs.setIfInBounds x.snd x.fst) A (List.map u8 a).zipIdx).size = A.size := fun A => fold_size _ A 0
  go_enter Try.func13, Try.ntmps13
  go_wp2_with (first
    | (refine wpList_load_mid rfl 23 _ rfl w.heap.size 0 rfl (a.map u8) _ (range_row (unhide HGA)) Try.underlying23 rfl (by rw [List.length_map, hal]; exact Try.size_dig) ?_)
    | (refine wpList_load_mid rfl 23 _ rfl (w.heap.size + 1) 0 rfl (b.map u8) _ (range_row (unhide HGB)) Try.underlying23 rfl (by rw [List.length_map, hbl]; exact Try.size_dig) ?_))
  rw [zb64, two_digs a b hal hbl]
  clear hfs
  refine Calls.mono (rcheck_any z _ [a, b] _ hz (RdD.two (alloc3_at _ _ _ _) hal hbl ha.2 hb.2)) ?_
  rintro e w1 ⟨rfl, k1⟩
  have k01 := ((Kept.refl [] ((w.alloc (.cells (brow a) 23)).alloc (.cells (brow b) 23))).alloc (.cells (a.map u8 ++ b.map u8).toArray 23)).trans k1 (by simp)
  have HK1 := hide ((unhide HK0).trans k01 (by simp))
  have HG1 := hide (k01.heap (unhide HGA) (by simp))
  have HG2 := hide (k01.heap (unhide HGB) (by simp))
  clear k1 k01 HGA HGB
  rw [unhide HFF]
  by_cases hf0 : f = 0
  · subst hf0
    obtain ⟨k, rfl, hk1, hk⟩ := unhide HI rfl
    rw [if_pos rfl, Int.toNat_natCast] at HC
    clear HI HFF
    have hk2 : IntKind.i64.wrap (2 * (k : Int)) = ((2 * k : Nat) : Int) := by simp [IntKind.wrap, IntKind.signed, IntKind.bits]; omega
    have HSA := hide (by rw [List.length_map, hal]; exact Try.size_dig : (Try.prog.info? 23).map (·.size) = some (a.map u8).length)
    have HSB := hide (by rw [List.length_map, hbl]; exact Try.size_dig : (Try.prog.info? 23).map (·.size) = some (b.map u8).length)
    have hk32 : k ≤ 32 := hk
    go_wp2_with fail
    refine wp_pair8 (fun w' => Kept [] w1 w') (by kernel_rfl) (by kernel_rfl) (by kernel_rfl) (by kernel_rfl) (by kernel_rfl) (by kernel_rfl) (by kernel_rfl) (by kernel_rfl) (by kernel_rfl) (by kernel_rfl) (by kernel_rfl) (by kernel_rfl) (by kernel_rfl) (by kernel_rfl) (by kernel_rfl) (by kernel_rfl) (by kernel_rfl) rfl rfl (Kept.refl [] w1).drew (.int .i64 (k : Int)) (.agg (a.map u8).toArray) (.int .i64 (k : Int)) (.agg (b.map u8).toArray)
      _ _ _ _ (by simp only [Act.put, List.setIfInBounds_toArray, List.set_cons_zero, List.set_cons_succ]; rfl) (by simp only [Act.put, List.setIfInBounds_toArray, List.set_cons_zero, List.set_cons_succ]; rfl) (by simp only [Act.put, List.setIfInBounds_toArray, List.set_cons_zero, List.set_cons_succ]; rfl) (by simp only [Act.put, List.setIfInBounds_toArray, List.set_cons_zero, List.set_cons_succ]; rfl)
      (by exact Or.inl ⟨by rfl, fun W' hW' => by go_simp⟩)
      (by exact yieldsIf_load_mid (by rfl) _ _ rfl w.heap.size 0 rfl (a.map u8) _ (fun W' hW' => range_row (hW'.heap (unhide HG1) (by simp))) Try.underlying23 rfl (unhide HSA))
      (by exact Or.inl ⟨by rfl, fun W' hW' => by go_simp⟩)
      (by exact yieldsIf_load_mid (by rfl) _ _ rfl (w.heap.size + 1) 0 rfl (b.map u8) _ (fun W' hW' => range_row (hW'.heap (unhide HG2) (by simp))) Try.underlying23 rfl (unhide HSB))
      (fun u w2 => RdZ w2 u (digsL a k) ∧ Kept [] w1 w2) (by intro K hK; exact wp_digits (.tmp 20) (.tmp 21) _ rfl k a rfl rfl hk32 ha (fun u w2 h => hK u w2 ⟨h.1, (Kept.refl [] w1).drew.trans h.2 (by simp)⟩)) (fun u w2 h => h.2)
      (fun u w2 v w3 => RdZ w3 v (digsL b k) ∧ RdZ w3 u (digsL a k) ∧ Kept [] w1 w3) (by intro u w2 h1 K hK; exact wp_digits (.tmp 23) (.tmp 24) _ rfl k b rfl rfl hk32 hb (fun v w3 h => hK v w3 ⟨h.1, h1.1.old h.2, h1.2.trans h.2 (by simp)⟩)) (fun u w2 v w3 h1 h2 => h2.2.2)
      (by intro u w2 v w3 h1 h2; exact Or.inl ⟨by rfl, fun W' hW' => by go_simp⟩) (by intro u w2 v w3 h1 h2; exact Or.inl ⟨by rfl, fun W' hW' => by go_simp⟩) ?_
    rintro u w2 v w3 ⟨_, _⟩ ⟨rv, ru, k3⟩
    simp only [Act.put, List.setIfInBounds_toArray, List.set_cons_zero, List.set_cons_succ]
    have HK3 := hide ((unhide HK1).trans k3 (by simp))
    have HRV := hide rv
    have HRU := hide ru
    obtain ⟨aU, cU, rfl, _⟩ := id ru
    obtain ⟨aV, cV, rfl, _⟩ := id rv
    clear rv ru k3
    have hla := digsL_len a k
    have hlb := digsL_len b k
    have HGA := hide (digsL_get a k)
    have HGB := hide (digsL_get b k)
    generalize digsL a k = da at *
    generalize digsL b k = db at *
    go_wp2_with fail
    go_loopw [28] (fun t28 wr => ∃ (i n : Nat), t28 = .int .i64 i ∧ i + n = 2 * k ∧ Hid (comL a b n i = C) ∧ Hid (Kept [] w3 wr)) (fun t _ => 2 * k - (intOf t).toNat)
    case atStart => exact ⟨0, 2 * k, rfl, by omega, hide (unhide HC).symm, hide (Kept.refl _ _)⟩
    case round =>
      obtain ⟨i, n, rfl, hin, HX, HKr⟩ := hrel
      cases n with
      | zero =>
        have hlt' : ¬ (i : Int) < da.length := by omega
        have HX2 := hide (by rw [← unhide HX]; unfold comL; omega : (C : Int) = ((2 * k : Nat) : Int))
        go_wp2
        go_ret2
        exact ⟨by rw [unhide HX2]; rfl, (unhide HK3).trans (unhide HKr) (by simp)⟩
      | succ n =>
        have hlt' : (i : Int) < da.length := by omega
        have hltb : (i : Int) < db.length := by omega
        obtain ⟨a8, c8, e8, _, _, h8⟩ := id (unhide HRU)
        cases e8
        obtain ⟨gA, oA, rfl, hcA⟩ := h8 (by omega)
        obtain ⟨a9, c9, e9, _, _, h9⟩ := id (unhide HRV)
        cases e9
        obtain ⟨gB, oB, rfl, hcB⟩ := h9 (by omega)
        have cA := hide ((unhide HKr).cell (hcA i (by omega)) (by simp))
        have cB := hide ((unhide HKr).cell (hcB i (by omega)) (by simp))
        rw [unhide HGA i (by omega)] at cA
        rw [unhide HGB i (by omega)] at cB
        clear hcA hcB h8 h9
        unfold comL at HX
        obtain ⟨x, hx⟩ : ∃ x, dgt a i = x := ⟨_, rfl⟩
        obtain ⟨y, hy⟩ : ∃ y, dgt b i = y := ⟨_, rfl⟩
        rw [hx, hy] at HX
        rw [hx] at cA
        rw [hy] at cB
        clear hx hy
        have hne : ∀ p : Prop, (∀ w', Kept [] wr w' → p) = p := fun p => propext ⟨fun h => h wr (Kept.refl [] wr), fun h _ _ => h⟩
        go_wp2_with fail
        refine wp_region_keep (by kernel_rfl) (by kernel_rfl) ?_
        go_big_quiet_step (fail)
        go_big_quiet_step (fail)
        go_big_quiet_step (fail)
        refine wpQuiet_val rfl (.int .i64 (x : Int)) (fun w' hw' => run_load1 3 (.tmp 33) rfl ⟨gA, oA + i, none⟩ rfl w' _ .i64 Try.underlying3 (hw'.cell (unhide cA) (by simp))) ?_
        simp only [Act.put, List.setIfInBounds_toArray, List.set_cons_succ, List.set_cons_zero]
        go_big_quiet_step (fail)
        go_big_quiet_step (fail)
        go_big_quiet_step (fail)
        refine wpQuiet_val rfl (.int .i64 (y : Int)) (fun w' hw' => run_load1 3 (.tmp 37) rfl ⟨gB, oB + i, none⟩ rfl w' _ .i64 Try.underlying3 (hw'.cell (unhide cB) (by simp))) ?_
        simp only [Act.put, List.setIfInBounds_toArray, List.set_cons_succ, List.set_cons_zero]
        repeat (go_big_quiet_step (fail))
        refine wpQuiet_nil ?_
        intro w5 hw5
        have HK5 := hide ((unhide HKr).trans hw5 (by simp))
        clear hw5 hne
        by_cases hxy : x = y
        · subst hxy
          rw [if_pos rfl] at HX
          go_wp2
          go_roundw
          case rel => exact ⟨i + 1, n, by go_num, by omega, HX, HK5⟩
          case measure => simp [intOf]; omega
        · rw [if_neg hxy] at HX
          have hxy' : ((x : Int) != y) = true := by rw [bne_iff_ne]; omega
          go_wp2
          go_ret2
          exact ⟨by rw [← unhide HX]; rfl, (unhide HK3).trans (unhide HK5) (by simp)⟩
  · have hf0' : ((f : Int) != 0) = true := by rw [bne_iff_ne]; omega
    rw [if_neg hf0] at HC
    clear HI HFF
    go_wp2
    go_ret2
    exact ⟨by rw [unhide HC]; rfl, unhide HK1⟩
end Go.Proofs.Ytclgblilgpfllaa
