import Derived.Test.YtpomkljgjihogaaDoorCRt
import Derived.Test.YtpomkljgjihogaaDoorSDocC
import Derived.Test.YtpomkljgjihogaaDoorRSum
import Derived.Test.YtpomkljgjihogaaDoorSAw
import Derived.Test.YtpomkljgjihogaaDoorQKeep
namespace Go.Proofs.YtpomkljgjihogaaDoor
open Go.RowKit Go.BigFrame
set_option linter.unusedVariables false
set_option linter.unusedSimpArgs false

theorem Tabs.k {w w' : World} (h : Tabs w) (k : Kept [] w w') : Tabs w' := h.kept k (by simp) (by simp)

set_option maxRecDepth 100000 in
set_option maxHeartbeats 1000000 in
theorem kget_any (i : Nat) (w : World) (hi : i < 64) :
    Calls Tryd.prog 8 #[.int .i64 i] w fun e w' => e = .returned (.int .u32 (kt.getD i 0 : Nat)) ∧ Kept [] w w' := by
  have hi0 : ¬ (i : Int) < 0 := by omega
  have hi1 : ¬ (63 : Int) < i := by omega
  have hi2 : (i : Int) < 64 := by omega
  go_enter Tryd.func8, Tryd.ntmps8
  go_wp2_with fail
  refine (words_any _).mono ?_
  rintro e w1 ⟨rfl, k1⟩
  have HK1 := hide k1
  clear k1
  have HK2 := hide (((unhide HK1).alloc (.cells (zw 64) 40)).setRow (g := w1.heap.size) (Or.inr (unhide HK1).size) (row kt))
  have cA := row_cell (ms := kt) (setRow_heap _ w1.heap.size _ (row kt) _ _ (heap_alloc_new w1 (.cells (zw 64) 40))) i (by exact hi)
  obtain ⟨y, hy⟩ : ∃ y, kt.getD i 0 = y := ⟨_, rfl⟩
  rw [hy] at cA
  have Hy := hide hy
  clear hy
  go_wp2_with (rw [zw64]; refine wpList_store_row rfl 40 _ _ rfl w1.heap.size (row kt) rfl rfl _ (zw 64) (heap_alloc_new _ _) (by rw [row_size]; exact Tryd.size_a64w) (by rw [zw_size, row_size]; rfl) (row_one _) ?_)
  go_ret
  exact ⟨by rw [unhide Hy]; rfl, unhide HK2⟩

theorem chk_stop {p i : Nat} (h : chkL 0 p i = true) : 64 ≤ i := by
  unfold chkL at h; exact of_decide_eq_true h
theorem chk_go {f p i : Nat} (h : chkL (f + 1) p i = true) (hi : i < 64) : (primeL p = true ∧ rootL p 3 40 0 274877906944 % 4294967296 = kt.getD i 0 ∧ (8 ≤ i ∨ rootL p 2 40 0 274877906944 % 4294967296 = h0.getD i 0) ∧ chkL f (p + 1) (i + 1) = true) ∨ (primeL p = false ∧ chkL f (p + 1) i = true) := by
  unfold chkL at h
  rw [if_neg (by omega)] at h
  cases hp : primeL p with
  | true =>
    rw [hp, if_pos rfl] at h
    simp only [Bool.and_eq_true, Bool.or_eq_true, beq_iff_eq, decide_eq_true_eq] at h
    exact Or.inl ⟨rfl, h.1.1, h.1.2, h.2⟩
  | false =>
    rw [hp, if_neg (by simp)] at h
    exact Or.inr ⟨rfl, h⟩

set_option maxRecDepth 100000 in
set_option maxHeartbeats 2000000 in
theorem shaConstants_walk (w : World) (hT : Tabs w) :
    Calls Tryd.prog 3 #[] w fun e w' => e = .returned (.bool true) ∧ Below w.heap.size w w' := by
  have HT := hide hT
  clear hT
  go_enter Tryd.func3, Tryd.ntmps3
  go_wp2_with fail
  refine (shaAwake_any w (unhide HT)).mono ?_
  rintro e w1 ⟨rfl, k1⟩
  have HK1 := hide k1
  clear k1
  have h2 := (unhide HT).two
  have hs1 := (unhide HK1).size
  go_wp2_with fail
  refine (first_any _).mono ?_
  rintro e w2 ⟨rfl, k2⟩
  have HK2 := hide ((unhide HK1).trans k2 (by simp))
  clear k2
  have hs2 := (unhide HK2).size
  go_wp2_with (rw [zw8]; refine wpList_store_row rfl 24 _ _ rfl w2.heap.size (row h0) rfl rfl _ (zw 8) (heap_alloc_new _ _) (by rw [row_size]; exact Tryd.size_a8) (by rw [zw_size, row_size]; rfl) (row_one _) ?_)
  have HK3 := hide (((unhide HK2).alloc (.cells (zw 8) 24)).setRow (g := w2.heap.size) (Or.inr hs2) (row h0))
  have HR3 := hide (setRow_heap _ w2.heap.size _ (row h0) _ _ (heap_alloc_new w2 (.cells (zw 8) 24)))
  obtain ⟨W, hW⟩ : ∃ W, (w2.alloc (.cells (zw 8) 24)).setRow w2.heap.size (row h0) = W := ⟨_, rfl⟩
  rw [hW] at HK3 HR3
  rw [hW]
  clear hW
  generalize w2.heap.size = g at *
  go_wp2_with fail
  go_loopw [2, 3] (fun t2 t3 wr => ∃ (i p f : Nat), t2 = .int .i64 i ∧ t3 = .int .u64 p ∧ i ≤ 64 ∧ p + f = 402 ∧ Hid (chkL f p i = true) ∧ Hid (wr.heap[g]? = some (.cells (row h0) 24 (0, 0))) ∧ Hid (Kept [] w wr)) (fun _ b _ => 402 - (intOf b).toNat)
  case atStart => exact ⟨0, 2, 400, rfl, rfl, by decide, by decide, hide chk_all, HR3, HK3⟩
  case round =>
    clear HK3 HR3
    obtain ⟨i, p, f, rfl, rfl, hi, hpf, HC, HR, HK⟩ := hrel
    by_cases hlt : i < 64
    · have hlt' : (i : Int) < 64 := by omega
      cases f with
      | zero => exfalso; have := chk_stop (unhide HC); omega
      | succ f =>
        have HC1 := hide (chk_go (unhide HC) hlt)
        clear HC
        go_wp2_with fail
        refine (prime_any p wr (by omega)).mono ?_
        rintro e w4 ⟨rfl, k4⟩
        have HK4 := hide ((unhide HK).trans k4 (by simp))
        have HR4 := hide (k4.heap (unhide HR) (by simp))
        clear k4 HK HR
        rcases unhide HC1 with ⟨hp, h3, h8, hn⟩ | ⟨hp, hn⟩
        · have HN := hide hn
          clear hn HC1
          rw [hp]
          have HA3 := hide (fun w' (hw' : Kept [] w4 w') => (root_any p 3 w' (by decide) (by decide) (by omega)).mono (fun e w2 h2 => ⟨h2.1, hw'.trans h2.2 (by simp)⟩) : ∀ w', Kept [] w4 w' → Calls Tryd.prog 7 #[.int .u64 p, .int .u64 3] w' fun e w2 => e = .returned (.int .u64 (rootL p 3 40 0 274877906944 : Int)) ∧ Kept [] w4 w2)
          have HA2 := hide (fun w' (hw' : Kept [] w4 w') => (root_any p 2 w' (by decide) (by decide) (by omega)).mono (fun e w2 h2 => ⟨h2.1, hw'.trans h2.2 (by simp)⟩) : ∀ w', Kept [] w4 w' → Calls Tryd.prog 7 #[.int .u64 p, .int .u64 2] w' fun e w2 => e = .returned (.int .u64 (rootL p 2 40 0 274877906944 : Int)) ∧ Kept [] w4 w2)
          have HAK := hide (fun w' (hw' : Kept [] w4 w') => (kget_any i w' hlt).mono (fun e w2 h2 => ⟨h2.1, hw'.trans h2.2 (by simp)⟩) : ∀ w', Kept [] w4 w' → Calls Tryd.prog 8 #[.int .i64 i] w' fun e w2 => e = .returned (.int .u32 (kt.getD i 0 : Nat)) ∧ Kept [] w4 w2)
          generalize rootL p 3 40 0 274877906944 = R3 at HA3 h3
          generalize rootL p 2 40 0 274877906944 = R2 at HA2 h8
          generalize kt.getD i 0 = y at HAK h3
          have h3' : (R3 : Int) % 4294967296 = y := by omega
          by_cases hi8 : i < 8
          · have hi8' : (i : Int) < 8 := by omega
            have cA := fun w' (hw' : Kept [] w4 w') => row_cell (hw'.heap (unhide HR4) (by simp)) i (by exact hi8)
            have h8' : R2 % 4294967296 = h0.getD i 0 := by rcases h8 with h | h; omega; exact h
            generalize h0.getD i 0 = z at cA h8'
            have HcA := hide cA
            clear cA h8
            have h9' : (R2 : Int) % 4294967296 = z := by omega
            have hne : ∀ p : Prop, (∀ w', Kept [] w4 w' → p) = p := fun p => propext ⟨fun h => h w4 (Kept.refl [] w4), fun h _ _ => h⟩
            go_wp2_with fail
            refine wp_region_keep (by kernel_rfl) (by kernel_rfl) ?_
            go_big_quiet_step (fail)
            go_big_quiet_want
            go_big_quiet_op
            apply Exists.intro
            refine ⟨fun w' hw' => ?_, ?_⟩
            · exact unhide HA3 w' hw'
            go_big_quiet_on
            go_big_quiet_step (fail)
            go_big_quiet_step (fail)
            go_big_quiet_want
            go_big_quiet_op
            apply Exists.intro
            refine ⟨fun w' hw' => ?_, ?_⟩
            · exact unhide HAK w' hw'
            go_big_quiet_on
            go_big_quiet_step (fail)
            go_big_quiet_step (fail)
            go_big_quiet_step (fail)
            go_big_quiet_step (fail)
            go_big_quiet_step (fail)
            go_big_quiet_step (fail)
            go_big_quiet_want
            go_big_quiet_op
            apply Exists.intro
            refine ⟨fun w' hw' => ?_, ?_⟩
            · exact unhide HA2 w' hw'
            go_big_quiet_on
            go_big_quiet_step (fail)
            go_big_quiet_step (fail)
            go_big_quiet_step (fail)
            refine wpQuiet_val rfl (wv z) (fun w' hw' => run_load1 23 (.tmp 29) rfl ⟨g, i, none⟩ rfl w' _ .u32 Tryd.underlying23 (unhide HcA w' hw')) ?_
            simp only [Act.put, List.setIfInBounds_toArray, List.set_cons_succ, List.set_cons_zero]
            repeat (go_big_quiet_step (fail))
            refine wpQuiet_nil ?_
            intro w5 hw5
            have HK5 := hide ((unhide HK4).trans hw5 (by simp))
            have HR5 := hide (hw5.heap (unhide HR4) (by simp))
            clear hw5 HcA HA2 HA3 HAK
            go_wp2
            go_roundw
            case rel => exact ⟨i + 1, p + 1, f, by go_num, by go_num, by omega, by omega, HN, HR5, HK5⟩
            case measure => simp [intOf]; omega
          · have hi8' : ¬ (i : Int) < 8 := by omega
            have hne : ∀ p : Prop, (∀ w', Kept [] w4 w' → p) = p := fun p => propext ⟨fun h => h w4 (Kept.refl [] w4), fun h _ _ => h⟩
            go_wp2_with fail
            refine wp_region_keep (by kernel_rfl) (by kernel_rfl) ?_
            go_big_quiet_step (fail)
            go_big_quiet_want
            go_big_quiet_op
            apply Exists.intro
            refine ⟨fun w' hw' => ?_, ?_⟩
            · exact unhide HA3 w' hw'
            go_big_quiet_on
            go_big_quiet_step (fail)
            go_big_quiet_step (fail)
            go_big_quiet_want
            go_big_quiet_op
            apply Exists.intro
            refine ⟨fun w' hw' => ?_, ?_⟩
            · exact unhide HAK w' hw'
            go_big_quiet_on
            go_big_quiet_step (fail)
            go_big_quiet_step (fail)
            go_big_quiet_step (fail)
            go_big_quiet_step (fail)
            rw [show decide ((i : Int) < 8) = false from decide_eq_false (by omega)]
            repeat (go_big_quiet_step (fail))
            refine wpQuiet_nil ?_
            intro w5 hw5
            have HK5 := hide ((unhide HK4).trans hw5 (by simp))
            have HR5 := hide (hw5.heap (unhide HR4) (by simp))
            clear hw5 HA2 HA3 HAK
            go_wp2
            go_roundw
            case rel => exact ⟨i + 1, p + 1, f, by go_num, by go_num, by omega, by omega, HN, HR5, HK5⟩
            case measure => simp [intOf]; omega
        · have HN := hide hn
          clear hn HC1
          rw [hp]
          go_wp2
          go_roundw
          case rel => exact ⟨i, p + 1, f, rfl, by go_num, hi, by omega, HN, HR4, HK4⟩
          case measure => simp [intOf]; omega
    · have hlt' : ¬ (i : Int) < 64 := by omega
      have HKz := hide ((unhide HK).alloc (.cells (zb 64) 30))
      have HRz := hide (((Kept.refl [] wr).alloc (.cells (zb 64) 30)).heap (unhide HR) (by simp))
      have HZz := hide (heap_alloc_new wr (.cells (zb 64) 30))
      go_wp2_with fail
      rw [zb64]
      obtain ⟨gz, hgz⟩ : ∃ gz, wr.heap.size = gz := ⟨_, rfl⟩
      obtain ⟨Wz, hWz⟩ : ∃ Wz, wr.alloc (.cells (zb 64) 30) = Wz := ⟨_, rfl⟩
      rw [hWz] at HKz HRz HZz
      rw [hgz] at HZz
      rw [hgz, hWz]
      clear hWz hgz
      have HTr := hide ((unhide HT).k (unhide HKz))
      have HB := hide (⟨by simp, by intro x hx; simp at hx; omega⟩ : (List.replicate 64 0).length = 64 ∧ ∀ x ∈ List.replicate 64 0, x < 256)
      have HCA := hide (fun w' (hw' : Kept [] Wz w') => (compress_any h0 (List.replicate 64 0) w' h0_wds (unhide HB).1 (unhide HB).2 ((unhide HTr).k hw').1).mono (fun e w2 h2 => ⟨h2.1, hw'.trans h2.2 (by simp)⟩) : ∀ w', Kept [] Wz w' → Calls Tryd.prog 9 #[.agg (row h0), .agg (brow (List.replicate 64 0))] w' fun e w2 => e = .returned (.agg (row (comp h0 (List.replicate 64 0)))) ∧ Kept [] Wz w2)
      have HDA := hide (fun w' (hw' : Kept [] Wz w') => (docCompress_any h0 (List.replicate 64 0) w' h0_wds (unhide HB).1 (unhide HB).2).mono (fun e w2 h2 => ⟨h2.1, hw'.trans h2.2 (by simp)⟩) : ∀ w', Kept [] Wz w' → Calls Tryd.prog 10 #[.agg (row h0), .agg (brow (List.replicate 64 0))] w' fun e w2 => e = .returned (.agg (row (comp h0 (List.replicate 64 0)))) ∧ Kept [] Wz w2)
      have HSA := hide (fun w' (hw' : Kept [] Wz w') => (sum256_any (.slice none 0 0) [] w' (Rd.nil w') (by simp) ((unhide HTr).k hw')).mono (fun e w2 h2 => ⟨h2.1, hw'.trans h2.2 (by simp)⟩) : ∀ w', Kept [] Wz w' → Calls Tryd.prog 11 #[.slice none 0 0] w' fun e w2 => e = .returned (.agg (brow (hash []))) ∧ Kept [] Wz w2)
      have HUA := hide (fun w' (hw' : Kept [] Wz w') => (refsum_any (.slice none 0 0) [] w' (Rd.nil w')).mono (fun e w2 h2 => ⟨h2.1, hw'.trans h2.2 (by simp)⟩) : ∀ w', Kept [] Wz w' → Calls Tryd.prog 12 #[.slice none 0 0] w' fun e w2 => e = .returned (.agg (brow (hash []))) ∧ Kept [] Wz w2)
      have hcl := (comp_wds h0 (List.replicate 64 0)).1
      have hhl := hash_len []
      generalize comp h0 (List.replicate 64 0) = cw at HCA HDA hcl
      generalize hash [] = hs0 at HSA HUA hhl
      have heq := fun W => row_eq8 W cw cw hcl hcl
      have heq2 := fun W => row_eq W hs0 hs0 hhl hhl
      simp only [decide_true] at heq heq2
      have hne : ∀ p : Prop, (∀ w', Kept [] Wz w' → p) = p := fun p => propext ⟨fun h => h Wz (Kept.refl [] Wz), fun h _ _ => h⟩
      refine wp_region_keep (by kernel_rfl) (by kernel_rfl) ?_
      refine wpQuiet_row rfl 24 (.tmp 1) rfl g rfl _ (row h0) (0, 0) _ (fun w' hw' => hw'.heap (unhide HRz) (by simp)) Tryd.underlying24 rfl (by rw [row_size]; exact Tryd.size_a8) ?_
      simp only [Act.put, List.setIfInBounds_toArray, List.set_cons_succ, List.set_cons_zero]
      refine wpQuiet_row rfl 30 (.tmp 4) rfl gz rfl _ (brow (List.replicate 64 0)) (0, 0) _ (fun w' hw' => hw'.heap (unhide HZz) (by simp)) Tryd.underlying30 rfl (by rw [brow_size, (unhide HB).1]; exact Tryd.size_a64b) ?_
      simp only [Act.put, List.setIfInBounds_toArray, List.set_cons_succ, List.set_cons_zero]
      go_big_quiet_want
      go_big_quiet_op
      apply Exists.intro
      refine ⟨fun w' hw' => ?_, ?_⟩
      · exact unhide HCA w' hw'
      go_big_quiet_on
      refine wpQuiet_row rfl 24 (.tmp 1) rfl g rfl _ (row h0) (0, 0) _ (fun w' hw' => hw'.heap (unhide HRz) (by simp)) Tryd.underlying24 rfl (by rw [row_size]; exact Tryd.size_a8) ?_
      simp only [Act.put, List.setIfInBounds_toArray, List.set_cons_succ, List.set_cons_zero]
      refine wpQuiet_row rfl 30 (.tmp 4) rfl gz rfl _ (brow (List.replicate 64 0)) (0, 0) _ (fun w' hw' => hw'.heap (unhide HZz) (by simp)) Tryd.underlying30 rfl (by rw [brow_size, (unhide HB).1]; exact Tryd.size_a64b) ?_
      simp only [Act.put, List.setIfInBounds_toArray, List.set_cons_succ, List.set_cons_zero]
      go_big_quiet_want
      go_big_quiet_op
      apply Exists.intro
      refine ⟨fun w' hw' => ?_, ?_⟩
      · exact unhide HDA w' hw'
      go_big_quiet_on
      refine wpQuiet_val rfl (.bool true) (fun w' _ => run_eql 24 (.tmp 38) (.tmp 41) 24 rfl (row cw) (row cw) rfl rfl w' true (by kernel_rfl) (heq w')) ?_
      simp only [Act.put, List.setIfInBounds_toArray, List.set_cons_succ, List.set_cons_zero]
      go_big_quiet_step (fail)
      go_big_quiet_want
      go_big_quiet_op
      apply Exists.intro
      refine ⟨fun w' hw' => ?_, ?_⟩
      · exact unhide HSA w' hw'
      go_big_quiet_on
      go_big_quiet_want
      go_big_quiet_op
      apply Exists.intro
      refine ⟨fun w' hw' => ?_, ?_⟩
      · exact unhide HUA w' hw'
      go_big_quiet_on
      refine wpQuiet_val rfl (.bool true) (fun w' _ => run_eql 32 (.tmp 44) (.tmp 45) 32 rfl (brow hs0) (brow hs0) rfl rfl w' true (by kernel_rfl) (heq2 w')) ?_
      simp only [Act.put, List.setIfInBounds_toArray, List.set_cons_succ, List.set_cons_zero]
      repeat (go_big_quiet_step (fail))
      refine wpQuiet_nil ?_
      intro w3 hw3
      have HK3 := hide ((unhide HKz).trans hw3 (by simp))
      clear hw3
      go_wp2
      go_ret
      exact ⟨rfl, (unhide HK3).below (Nat.le_refl _) (by simp)⟩
end Go.Proofs.YtpomkljgjihogaaDoor
