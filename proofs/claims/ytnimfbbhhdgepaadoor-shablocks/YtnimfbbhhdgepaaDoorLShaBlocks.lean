import Derived.Test.YtnimfbbhhdgepaaDoorLShaSums
import Derived.Test.YtnimfbbhhdgepaaDoorSDocC
import Derived.Test.YtnimfbbhhdgepaaDoorQKeep
namespace Go.Proofs.YtnimfbbhhdgepaaDoor
open Go.RowKit Go.BigFrame
set_option linter.unusedVariables false
set_option linter.unusedSimpArgs false

/-- The slice value v reads as the words ws. -/
def RdW (w : World) (v : Value) (ws : List Nat) : Prop :=
  ∃ (ao : Option Addr) (len cap : Nat), v = .slice ao len cap ∧ ws.length = len ∧ len ≤ cap ∧ cap ≤ 9223372036854775807 ∧
    (∀ x ∈ ws, x < 4294967296) ∧ (0 < len → ∃ b off, ao = some ⟨b, off, none⟩ ∧ ∀ i, i < len → w.cell? ⟨b, off + i, none⟩ = some (wv (ws.getD i 0)))
theorem RdW.old {w0 w : World} {v : Value} {ws : List Nat} (h : RdW w0 v ws) (k : Kept [] w0 w) : RdW w v ws := by
  obtain ⟨ao, len, cap, rfl, h1, h2, h3, h5, h6⟩ := h
  refine ⟨ao, len, cap, rfl, h1, h2, h3, h5, fun hp => ?_⟩
  obtain ⟨b, off, rfl, hc⟩ := h6 hp
  exact ⟨b, off, rfl, fun i hi => k.cell (hc i hi) (by simp)⟩
theorem wds_set {hs : List Nat} (h : Wds hs) (k x : Nat) (hx : x < 4294967296) : Wds (hs.set k x) :=
  ⟨by simpa using h.1, fun y hy => by rcases List.mem_or_eq_of_mem_set hy with h1 | h1; exact h.2 y h1; rw [h1]; exact hx⟩
theorem bts_set {bs : List Nat} (h : ∀ x ∈ bs, x < 256) (k x : Nat) (hx : x < 256) : ∀ y ∈ bs.set k x, y < 256 :=
  fun y hy => by rcases List.mem_or_eq_of_mem_set hy with h1 | h1; exact h y h1; rw [h1]; exact hx

set_option maxRecDepth 100000 in
set_option maxHeartbeats 2000000 in
theorem shaBlocks_walk (v : Value) (ws : List Nat) (u : Value) (p : List Nat) (w : World) (hv : RdW w v ws) (h : Rd w u p) (hl : p.length ≤ 140737488355328) (hT : Tabs w) :
    Calls Tryd.prog 4 #[v, u] w fun e w' => e = .returned (.bool true) ∧ Below w.heap.size w w' := by
  have HT := hide hT
  have HVo := hide (fun W (k : Kept [] w W) => hv.old k)
  have HUo := hide (fun W (k : Kept [] w W) => h.old k (by simp))
  obtain ⟨va, vl, vc, rfl, hvl, hv2, hv3, hv5, hvx⟩ := hv
  obtain ⟨ua, ul, uc, rfl, hul, hu2, ⟨hu3, hu3'⟩, hu4, hu5, hux⟩ := h
  subst hvl
  subst hul
  have HV5 := hide hv5
  have HU5 := hide hu5
  clear hT hv5 hu5 hu4 hvx hux
  go_enter Tryd.func4, Tryd.ntmps4
  go_wp2_with fail
  rw [zw8, zb64]
  have Hz0 := hide (⟨by simp, by intro x hx; simp at hx; omega⟩ : Wds (List.replicate 8 0))
  go_loopw [7] (fun t7 wr => ∃ (k : Nat) (hs : List Nat), k ≤ 8 ∧ t7 = .int .i64 k ∧ Hid (Wds hs) ∧ Hid (wr.heap[w.heap.size]? = some (.cells (row hs) 30 (0, 0))) ∧ Hid (wr.heap[w.heap.size + 1]? = some (.cells (zb 64) 31 (0, 0))) ∧ Hid (Kept [] w wr)) (fun t _ => 8 - (intOf t).toNat)
  case atStart => exact ⟨0, List.replicate 8 0, by omega, rfl, Hz0, hide (heap_alloc2_old _ _ _), hide (heap_alloc2_new _ _ _), hide (((Kept.refl [] w).alloc _).alloc _)⟩
  case round =>
    obtain ⟨k, hs, hk, rfl, HM, HR, HZ, HK⟩ := hrel
    by_cases hlt : k < 8 ∧ k < ws.length
    · obtain ⟨hl1, hl2⟩ := hlt
      have hl1' : (k : Int) < 8 := by omega
      have hl2' : (k : Int) < ws.length := by omega
      obtain ⟨_, _, _, he, _, _, _, hb5, hc6⟩ := unhide HVo _ (unhide HK)
      cases he
      obtain ⟨b, o, rfl, hcell⟩ := hc6 (by omega)
      have cs := hcell k hl2
      have hx := wordD hb5 k
      generalize ws.getD k 0 = x at cs hx
      clear hcell hb5 hc6
      have ch := row_cell (unhide HR) k (by rw [(unhide HM).1]; exact hl1)
      have fr : wr.frozen? ⟨w.heap.size, k, none⟩ = false := frozen_of_row _ _ _ _ _ (unhide HR)
      have HMN := hide (wds_set (unhide HM) k x hx)
      have HNR := hide (by
        have h1 := heap_setCell_same wr w.heap.size k _ 30 (wv x) (unhide HR)
        rw [row_set] at h1; exact h1 : (wr.setCell ⟨w.heap.size, k, none⟩ (wv x)).heap[w.heap.size]? = some (.cells (row (hs.set k x)) 30 (0, 0)))
      have HNZ := hide ((heap_setCell_other wr ⟨w.heap.size, k, none⟩ (w.heap.size + 1) (wv x) (by simp)).trans (unhide HZ))
      have HNK := hide ((unhide HK).setCell (p := ⟨w.heap.size, k, none⟩) (Or.inr (by simp)) (wv x))
      go_wp2
      go_roundw
      case rel => exact ⟨k + 1, _, by omega, by go_num, HMN, HNR, HNZ, HNK⟩
      case measure => simp [intOf]; omega
    · have hst : ¬ (k : Int) < 8 ∨ ((k : Int) < 8 ∧ ¬ (k : Int) < ws.length) := by omega
      have HEND : Hid (Wds hs) := HM
      rcases hst with hst | ⟨hst, hst'⟩
      all_goals
        go_wp2
        have Hz1 := hide (⟨by simp, by intro x hx; simp at hx; omega⟩ : (List.replicate 64 0).length = 64 ∧ ∀ x ∈ List.replicate 64 0, x < 256)
        go_loopw [8] (fun t8 wq => ∃ (j : Nat) (bs : List Nat), j ≤ 64 ∧ t8 = .int .i64 j ∧ Hid (bs.length = 64 ∧ ∀ x ∈ bs, x < 256) ∧ Hid (wq.heap[w.heap.size]? = some (.cells (row hs) 30 (0, 0))) ∧ Hid (wq.heap[w.heap.size + 1]? = some (.cells (brow bs) 31 (0, 0))) ∧ Hid (Kept [] w wq)) (fun t _ => 64 - (intOf t).toNat)
        case atStart => exact ⟨0, List.replicate 64 0, by omega, rfl, Hz1, HR, HZ, HK⟩
        case round =>
          clear HR HZ HK
          obtain ⟨j, bs, hj, rfl, HB, HR, HZ, HK⟩ := hrel
          by_cases hlt2 : j < 64 ∧ j < p.length
          · obtain ⟨hm1, hm2⟩ := hlt2
            have hm1' : (j : Int) < 64 := by omega
            have hm2' : (j : Int) < p.length := by omega
            obtain ⟨_, _, _, he, _, _, _, _, hb5, hc6⟩ := unhide HUo _ (unhide HK)
            cases he
            obtain ⟨b, o, rfl, hcell⟩ := hc6 (by omega)
            have cs := hcell j hm2
            have hx := byteD hb5 j
            generalize p.getD j 0 = x at cs hx
            clear hcell hb5 hc6
            have ch := brow_cell (unhide HZ) j (by rw [(unhide HB).1]; exact hm1)
            have fr : wr.frozen? ⟨w.heap.size + 1, j, none⟩ = false := frozen_of_row _ _ _ _ _ (unhide HZ)
            have HMN := hide (⟨by simpa using (unhide HB).1, bts_set (unhide HB).2 j x hx⟩ : (bs.set j x).length = 64 ∧ ∀ y ∈ bs.set j x, y < 256)
            have HNZ := hide (brow_setCell (unhide HZ) j x)
            have HNR := hide ((heap_setCell_other wr ⟨w.heap.size + 1, j, none⟩ w.heap.size (Go.Proofs.YtnimfbbhhdgepaaDoor.u8 x) (by simp)).trans (unhide HR))
            have HNK := hide ((unhide HK).setCell (p := ⟨w.heap.size + 1, j, none⟩) (Or.inr (by simp)) (Go.Proofs.YtnimfbbhhdgepaaDoor.u8 x))
            go_wp2
            go_roundw
            case rel => exact ⟨j + 1, _, by omega, by go_num, HMN, HNR, HNZ, HNK⟩
            case measure => simp [intOf]; omega
          · have hst2 : ¬ (j : Int) < 64 ∨ ((j : Int) < 64 ∧ ¬ (j : Int) < p.length) := by omega
            rcases hst2 with hst2 | ⟨hst2, hst2'⟩
            all_goals
              go_wp2_with fail
              have HTr := hide ((unhide HT).k (unhide HK))
              have HCA := hide (fun w' (hw' : Kept [] wr w') => (compress_any hs bs w' (unhide HM) (unhide HB).1 (unhide HB).2 ((unhide HTr).k hw').1).mono (fun e w2 h2 => ⟨h2.1, hw'.trans h2.2 (by simp)⟩) : ∀ w', Kept [] wr w' → Calls Tryd.prog 13 #[.agg (row hs), .agg (brow bs)] w' fun e w2 => e = .returned (.agg (row (comp hs bs))) ∧ Kept [] wr w2)
              have HDA := hide (fun w' (hw' : Kept [] wr w') => (docCompress_any hs bs w' (unhide HM) (unhide HB).1 (unhide HB).2).mono (fun e w2 h2 => ⟨h2.1, hw'.trans h2.2 (by simp)⟩) : ∀ w', Kept [] wr w' → Calls Tryd.prog 14 #[.agg (row hs), .agg (brow bs)] w' fun e w2 => e = .returned (.agg (row (comp hs bs))) ∧ Kept [] wr w2)
              have HAA := hide (fun w' (hw' : Kept [] wr w') => (shaAwake_any w' ((unhide HTr).k hw')).mono (fun e w2 h2 => ⟨h2.1, hw'.trans h2.2 (by simp)⟩) : ∀ w', Kept [] wr w' → Calls Tryd.prog 9 #[] w' fun e w2 => e = .returned (.bool true) ∧ Kept [] wr w2)
              have hcl := (comp_wds hs bs).1
              generalize comp hs bs = cw at HCA HDA hcl
              have heq := fun W => row_eq8 W cw cw hcl hcl
              simp only [decide_true] at heq
              refine wp_region_keep (by kernel_rfl) (by kernel_rfl) ?_
              go_big_quiet_want
              go_big_quiet_op
              apply Exists.intro
              refine ⟨fun w' hw' => ?_, ?_⟩
              · exact unhide HAA w' hw'
              go_big_quiet_on
              go_big_quiet_step (fail)
              refine wpQuiet_row rfl 30 (.tmp 5) rfl w.heap.size rfl _ (row hs) (0, 0) _ (fun w' hw' => hw'.heap (unhide HR) (by simp)) Tryd.underlying30 rfl (by rw [row_size, (unhide HM).1]; exact Tryd.size_a8) ?_
              simp only [Act.put, List.setIfInBounds_toArray, List.set_cons_succ, List.set_cons_zero]
              refine wpQuiet_row rfl 31 (.tmp 6) rfl (w.heap.size + 1) rfl _ (brow bs) (0, 0) _ (fun w' hw' => hw'.heap (unhide HZ) (by simp)) Tryd.underlying31 rfl (by rw [brow_size, (unhide HB).1]; exact Tryd.size_a64b) ?_
              simp only [Act.put, List.setIfInBounds_toArray, List.set_cons_succ, List.set_cons_zero]
              go_big_quiet_want
              go_big_quiet_op
              apply Exists.intro
              refine ⟨fun w' hw' => ?_, ?_⟩
              · exact unhide HCA w' hw'
              go_big_quiet_on
              refine wpQuiet_row rfl 30 (.tmp 5) rfl w.heap.size rfl _ (row hs) (0, 0) _ (fun w' hw' => hw'.heap (unhide HR) (by simp)) Tryd.underlying30 rfl (by rw [row_size, (unhide HM).1]; exact Tryd.size_a8) ?_
              simp only [Act.put, List.setIfInBounds_toArray, List.set_cons_succ, List.set_cons_zero]
              refine wpQuiet_row rfl 31 (.tmp 6) rfl (w.heap.size + 1) rfl _ (brow bs) (0, 0) _ (fun w' hw' => hw'.heap (unhide HZ) (by simp)) Tryd.underlying31 rfl (by rw [brow_size, (unhide HB).1]; exact Tryd.size_a64b) ?_
              simp only [Act.put, List.setIfInBounds_toArray, List.set_cons_succ, List.set_cons_zero]
              go_big_quiet_want
              go_big_quiet_op
              apply Exists.intro
              refine ⟨fun w' hw' => ?_, ?_⟩
              · exact unhide HDA w' hw'
              go_big_quiet_on
              have hne : ∀ p : Prop, (∀ w', Kept [] wr w' → p) = p := fun p => propext ⟨fun h => h wr (Kept.refl [] wr), fun h _ _ => h⟩
              refine wpQuiet_val rfl (.bool true) (fun w' _ => run_eql 30 (.tmp 45) (.tmp 48) 30 rfl (row cw) (row cw) rfl rfl w' true (by kernel_rfl) (heq w')) ?_
              simp only [Act.put, List.setIfInBounds_toArray, List.set_cons_succ, List.set_cons_zero]
              repeat (go_big_quiet_step (fail))
              refine wpQuiet_nil ?_
              intro w3 hw3
              have HK3 := hide ((unhide HK).trans hw3 (by simp))
              clear hw3
              go_wp2
              go_ret
              exact ⟨rfl, (unhide HK3).below (Nat.le_refl _) (by simp)⟩
end Go.Proofs.YtnimfbbhhdgepaaDoor
