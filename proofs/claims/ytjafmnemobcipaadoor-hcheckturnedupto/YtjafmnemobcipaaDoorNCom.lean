import Derived.Test.YtjafmnemobcipaaDoorNAt
namespace Go.Proofs.YtjafmnemobcipaaDoor
open Go.RowKit Go.BigFrame
set_option linter.unusedVariables false
set_option linter.unusedSimpArgs false

/-- The first of the next n digits, from i on, at which the two part. -/
def comL (a b : List Nat) : Nat → Nat → Nat
  | 0, i => i
  | n + 1, i => if dgt a i = dgt b i then comL a b n (i + 1) else i
def comC (z : Int) (a b : List Nat) : Nat := if formedE z [a, b] = 0 then comL a b (2 * z.toNat) 0 else 0

set_option maxRecDepth 100000 in
set_option maxHeartbeats 1000000 in
theorem common_any (z : Int) (a b : List Nat) (w : World) (hz : -9223372036854775808 ≤ z ∧ z ≤ 9223372036854775807) (ha : Dg a) (hb : Dg b) :
    Calls Tryd.prog 64 #[.int .i64 z, .agg (brow a), .agg (brow b)] w fun e w' => e = .returned (.tuple #[.int .i64 (comC z a b : Int), .int .i64 (formedE z [a, b] : Int)]) ∧ Kept [] w w' := by
  have HA := hide ha
  have HB := hide hb
  have hal := ha.1
  have hbl := hb.1
  have HGA := hide (((Kept.refl [] (w.alloc (.cells (brow a) 29))).alloc (.cells (brow b) 29)).heap (heap_alloc_new w (.cells (brow a) 29)) (by simp))
  have HGB := hide (alloc_at w (.cells (brow a) 29) (.cells (brow b) 29))
  have HK0 := hide (((Kept.refl [] w).alloc (.cells (brow a) 29)).alloc (.cells (brow b) 29))
  have HI := hide (fun (h : formedE z [a, b] = 0) => by
    have hw : widthB z = true := by
      unfold formedE at h
      cases hw : widthB z with
      | false => rw [hw] at h; simp at h
      | true => rfl
    simp [widthB] at hw
    exact ⟨⟨z.toNat, by omega⟩, hw.2⟩ : formedE z [a, b] = 0 → (∃ k : Nat, z = k) ∧ z ≤ 32)
  have HC := hide (by unfold comC; rfl : comC z a b = if formedE z [a, b] = 0 then comL a b (2 * z.toNat) 0 else 0)
  obtain ⟨f, hf⟩ : ∃ f, formedE z [a, b] = f := ⟨_, rfl⟩
  obtain ⟨C, hC⟩ : ∃ C, comC z a b = C := ⟨_, rfl⟩
  have HFF := hide hf
  rw [hf, hC] at HC
  rw [hf] at HI
  rw [hf, hC]
  clear hf hC
  have hfs : ∀ A : Array Value, (List.foldl (fun cs x => cs.setIfInBounds x.snd x.fst) A (List.map u8 a).zipIdx).size = A.size := fun A => fold_size _ A 0
  go_enter Tryd.func64, Tryd.ntmps64
  go_wp2_with (first
    | (refine wpList_load_mid rfl 29 _ rfl w.heap.size 0 rfl (a.map u8) _ (range_row (unhide HGA)) Tryd.underlying29 rfl (by rw [List.length_map, hal]; exact Tryd.size_dig) ?_)
    | (refine wpList_load_mid rfl 29 _ rfl (w.heap.size + 1) 0 rfl (b.map u8) _ (range_row (unhide HGB)) Tryd.underlying29 rfl (by rw [List.length_map, hbl]; exact Tryd.size_dig) ?_))
  rw [zb64, two_digs a b hal hbl]
  clear hfs
  refine Calls.mono (nformed_any z _ [a, b] _ hz (RdD.two (alloc3_at _ _ _ _) hal hbl ha.2 hb.2)) ?_
  rintro e w1 ⟨rfl, k1⟩
  have k01 := ((Kept.refl [] ((w.alloc (.cells (brow a) 29)).alloc (.cells (brow b) 29))).alloc (.cells (a.map u8 ++ b.map u8).toArray 29)).trans k1 (by simp)
  have HK1 := hide ((unhide HK0).trans k01 (by simp))
  have HG1 := hide (k01.heap (unhide HGA) (by simp))
  have HG2 := hide (k01.heap (unhide HGB) (by simp))
  clear k1 k01 HGA HGB
  rw [unhide HFF]
  by_cases hf0 : f = 0
  · subst hf0
    obtain ⟨⟨k, rfl⟩, hk⟩ := unhide HI rfl
    rw [if_pos rfl, Int.toNat_natCast] at HC
    clear HI HFF
    have hk2 : IntKind.i64.wrap (2 * (k : Int)) = ((2 * k : Nat) : Int) := by simp [IntKind.wrap, IntKind.signed, IntKind.bits]; omega
    go_wp2_with fail
    have HZA := hide (by rw [brow_size, hal]; exact Tryd.size_dig : (Tryd.prog.info? 29).map (·.size) = some (brow a).size)
    have HZB := hide (by rw [brow_size, hbl]; exact Tryd.size_dig : (Tryd.prog.info? 29).map (·.size) = some (brow b).size)
    go_loopw [20] (fun t20 wr => ∃ (i n : Nat), t20 = .int .i64 i ∧ i + n = 2 * k ∧ Hid (comL a b n i = C) ∧ Hid (Kept [] w1 wr)) (fun t _ => 2 * k - (intOf t).toNat)
    case atStart => exact ⟨0, 2 * k, rfl, by omega, hide (unhide HC).symm, hide (Kept.refl _ _)⟩
    case round =>
      obtain ⟨i, n, rfl, hin, HX, HKr⟩ := hrel
      cases n with
      | zero =>
        have hlt' : ¬ (i : Int) < (2 * k : Nat) := by omega
        have hlt2 : ¬ (i : Int) < 2 * k := by omega
        have HX2 := hide (by rw [← unhide HX]; unfold comL; omega : (C : Int) = ((2 * k : Nat) : Int))
        go_wp2
        go_ret2
        exact ⟨by rw [unhide HX2]; rfl, (unhide HK1).trans (unhide HKr) (by simp)⟩
      | succ n =>
        have hlt' : (i : Int) < (2 * k : Nat) := by omega
        have hlt2 : (i : Int) < 2 * k := by omega
        have HGA := hide ((unhide HKr).heap (unhide HG1) (by simp))
        have HGB := hide ((unhide HKr).heap (unhide HG2) (by simp))
        have hne : ∀ p : Prop, (∀ w', Kept [] wr w' → p) = p := fun p => propext ⟨fun h => h wr (Kept.refl [] wr), fun h _ _ => h⟩
        have HC1 := hide (fun w' (hw' : Kept [] wr w') => (digit_any a i w' hal ha.2 (by omega)).mono (fun e w2 (h2 : _ ∧ _) => (⟨h2.1, hw'.trans h2.2 (by simp)⟩ : _ ∧ Kept [] wr w2)))
        have HC2 := hide (fun w' (hw' : Kept [] wr w') => (digit_any b i w' hbl hb.2 (by omega)).mono (fun e w2 (h2 : _ ∧ _) => (⟨h2.1, hw'.trans h2.2 (by simp)⟩ : _ ∧ Kept [] wr w2)))
        unfold comL at HX
        obtain ⟨x, hx⟩ : ∃ x, dgt a i = x := ⟨_, rfl⟩
        obtain ⟨y, hy⟩ : ∃ y, dgt b i = y := ⟨_, rfl⟩
        rw [hx, hy] at HX
        rw [hx] at HC1
        rw [hy] at HC2
        clear hx hy
        go_wp2_with fail
        refine wp_region_keep (by kernel_rfl) (by kernel_rfl) ?_
        refine wpQuiet_row rfl 29 (.tmp 4) rfl w.heap.size rfl _ (brow a) (0, 0) _ (fun w' hw' => hw'.heap (unhide HGA) (by simp)) Tryd.underlying29 rfl (unhide HZA) ?_
        simp only [Act.put, List.setIfInBounds_toArray, List.set_cons_succ, List.set_cons_zero]
        go_big_quiet_step (fail)
        go_big_quiet_want
        go_big_quiet_op
        apply Exists.intro
        refine ⟨fun w' hw' => ?_, ?_⟩
        · exact unhide HC1 w' hw'
        go_big_quiet_on
        refine wpQuiet_row rfl 29 (.tmp 5) rfl (w.heap.size + 1) rfl _ (brow b) (0, 0) _ (fun w' hw' => hw'.heap (unhide HGB) (by simp)) Tryd.underlying29 rfl (unhide HZB) ?_
        simp only [Act.put, List.setIfInBounds_toArray, List.set_cons_succ, List.set_cons_zero]
        go_big_quiet_step (fail)
        go_big_quiet_want
        go_big_quiet_op
        apply Exists.intro
        refine ⟨fun w' hw' => ?_, ?_⟩
        · exact unhide HC2 w' hw'
        go_big_quiet_on
        repeat (go_big_quiet_step (fail))
        refine wpQuiet_nil ?_
        intro w5 hw5
        have HK5 := hide ((unhide HKr).trans hw5 (by simp))
        clear hw5 hne HC1 HC2
        by_cases hxy : x = y
        · subst hxy
          rw [if_pos rfl] at HX
          go_wp2
          go_roundw
          case rel => exact ⟨i + 1, n, by go_num, by omega, HX, HK5⟩
          case measure => simp [intOf]; omega
        · rw [if_neg hxy] at HX
          have hxy' : ((x : Int) != y) = true := by rw [bne_iff_ne]; omega
          go_wp2
          go_ret2
          exact ⟨by rw [← unhide HX]; rfl, (unhide HK1).trans (unhide HK5) (by simp)⟩
  · have hf0' : ((f : Int) != 0) = true := by rw [bne_iff_ne]; omega
    rw [if_neg hf0] at HC
    clear HI HFF
    go_wp2
    go_ret2
    exact ⟨by rw [unhide HC]; rfl, unhide HK1⟩
end Go.Proofs.YtjafmnemobcipaaDoor
