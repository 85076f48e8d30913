import Derived.Test.YtbljofojeagdkaaDoorMCl
namespace Go.Proofs.YtbljofojeagdkaaDoor
open Go.RowKit Go.BigFrame
set_option linter.unusedVariables false
set_option linter.unusedSimpArgs false

set_option maxRecDepth 100000 in
set_option maxHeartbeats 2000000 in
theorem mformed_any (z : Int) (pv kv : Value) (ps ks : List (List Nat)) (w : World) (hz : -9223372036854775808 ≤ z ∧ z ≤ 9223372036854775807) (hp : RdD w pv ps) (hk : RdD w kv ks) :
    Calls Tryd.prog 25 #[.int .i64 z, pv, kv] w fun e w' => e = .returned (.int .i64 (formedE z (ks ++ ps))) ∧ Kept [] w w' := by
  have HP := hide hp
  have HK := hide hk
  obtain ⟨ao, len, cap, rfl, h1, h2, h3, h4, h5⟩ := hp
  obtain ⟨ao', len', cap', rfl, h1', h2', h3', h4', h5'⟩ := hk
  clear h4 h5 h4' h5'
  obtain ⟨E, hE⟩ : ∃ E, formedE z (ks ++ ps) = E := ⟨_, rfl⟩
  have HE := hide hE
  rw [hE]
  clear hE
  go_enter Tryd.func25, Tryd.ntmps25
  by_cases hw1 : z < 1
  · have HE1 := hide (by rw [← unhide HE]; unfold formedE widthB; rw [if_pos (by simp; omega)] : E = 1)
    go_wp2
    go_ret
    exact ⟨by rw [unhide HE1]; rfl, Kept.refl _ _⟩
  · by_cases hw2 : 32 < z
    · have HE1 := hide (by rw [← unhide HE]; unfold formedE widthB; rw [if_pos (by simp; omega)] : E = 1)
      go_wp2
      go_ret
      exact ⟨by rw [unhide HE1]; rfl, Kept.refl _ _⟩
    · have HW := hide (by simp [widthB]; omega : widthB z = true)
      go_wp2_with fail
      have HK0 := hide ((Kept.refl [] w).alloc (.cells #[.slice ao' len' cap', .slice ao len cap] 25))
      have HG0 := hide (heap_alloc_new w (.cells #[.slice ao' len' cap', .slice ao len cap] 25))
      obtain ⟨W0, hW0⟩ : ∃ W0, w.alloc (.cells #[.slice ao' len' cap', .slice ao len cap] 25) = W0 := ⟨_, rfl⟩
      rw [hW0] at HK0 HG0 ⊢
      clear hW0
      go_loopw [21] (fun t21 wr => ∃ (i : Nat), i ≤ 2 ∧ t21 = .int .i64 i ∧ Hid (1 ≤ i → ks.all (formB z) = true) ∧ Hid (2 ≤ i → ps.all (formB z) = true) ∧ Hid (Kept [] W0 wr)) (fun t _ => 2 - (intOf t).toNat)
      case atStart => exact ⟨0, by omega, rfl, hide (by omega), hide (by omega), hide (Kept.refl _ _)⟩
      case round =>
        obtain ⟨i, hi, rfl, HA, HB, HK1⟩ := hrel
        by_cases hlt : i < 2
        · have hlt' : (i : Int) < 2 := by omega
          obtain ⟨la, ll, lc, ls, HLS⟩ : ∃ la ll lc ls, Hid (wr.cell? ⟨w.heap.size, i, none⟩ = some (.slice la ll lc) ∧ RdD wr (.slice la ll lc) ls ∧ (ls.all (formB z) = true → (1 ≤ i + 1 → ks.all (formB z) = true) ∧ (2 ≤ i + 1 → ps.all (formB z) = true)) ∧ (∀ y ∈ ls, y ∈ ks ++ ps)) := by
            have hg := (unhide HK1).heap (unhide HG0) (by simp)
            rcases (by omega : i = 0 ∨ i = 1) with rfl | rfl
            · exact ⟨ao', len', cap', ks, hide ⟨by rw [cell_of_row _ _ _ _ _ _ hg]; rfl, ((unhide HK).old (unhide HK0)).old (unhide HK1), fun h => ⟨fun _ => h, by omega⟩, fun y hy => by simp [hy]⟩⟩
            · exact ⟨ao, len, cap, ps, hide ⟨by rw [cell_of_row _ _ _ _ _ _ hg]; rfl, ((unhide HP).old (unhide HK0)).old (unhide HK1), fun h => ⟨fun _ => unhide HA (by omega), fun _ => h⟩, fun y hy => by simp [hy]⟩⟩
          have hcl := (unhide HLS).1
          have hll := (unhide HLS).2.1.nil_len
          have HR := hide (unhide HLS).2.1
          have HQ := hide (unhide HLS).2.2
          clear HLS
          subst hll
          go_wp2_with fail
          obtain ⟨wo, hwo⟩ : ∃ wo, wo = wr := ⟨_, rfl⟩
          subst hwo
          go_loopw [27] (fun t27 wq => ∃ (j : Nat), j ≤ ls.length ∧ t27 = .int .i64 j ∧ Hid ((ls.take j).all (formB z) = true) ∧ Hid (Kept [] wo wq)) (fun t _ => ls.length - (intOf t).toNat)
          case atStart => exact ⟨0, Nat.zero_le _, rfl, hide (by simp), hide (Kept.refl _ _)⟩
          case round =>
            obtain ⟨j, hj, rfl, HAJ, HKJ⟩ := hrel
            by_cases hjl : j < ls.length
            · have hjl' : (j : Int) < ls.length := by omega
              obtain ⟨ra, rl, rc, re, r1, r2, r3, r4, r5⟩ := unhide HR
              cases re
              obtain ⟨b, o, rfl, hcell⟩ := r5 (by omega)
              have HD := hide (r4 (ls.getD j []) (by rw [List.getD_eq_getElem?_getD, List.getElem?_eq_getElem hjl]; exact List.getElem_mem hjl))
              have HRG := hide (fun u v hv => (unhide HKJ).cell (hcell j hjl u v hv) (by simp) : wr.rangeAt b (o + j * 32) ((ls.getD j []).map Go.Proofs.YtbljofojeagdkaaDoor.u8))
              have HN := hide (by rw [List.take_succ_eq_append_getElem hjl, List.all_append, unhide HAJ, List.getD_eq_getElem?_getD, List.getElem?_eq_getElem hjl]; simp : (ls.take (j + 1)).all (formB z) = formB z (ls.getD j []))
              have HM := hide (fun (h : formB z (ls.getD j []) = false) => by
                have : (ks ++ ps).all (formB z) = false := by
                  rw [List.all_eq_false]
                  exact ⟨ls.getD j [], (unhide HQ).2 _ (by rw [List.getD_eq_getElem?_getD, List.getElem?_eq_getElem hjl]; exact List.getElem_mem hjl), by rw [h]; decide⟩
                rw [← unhide HE]; unfold formedE; rw [if_neg (by rw [unhide HW]; simp), if_neg (by rw [this]; simp)] : formB z (ls.getD j []) = false → E = 3)
              clear hcell r4 r5
              obtain ⟨d, hd⟩ : ∃ d, ls.getD j [] = d := ⟨_, rfl⟩
              rw [hd] at HD HRG HN HM
              clear hd
              have hdl := (unhide HD).1
              have HSZ := hide (by rw [brow_size, hdl]; exact Tryd.size_dig : (Tryd.prog.info? 23).map (·.size) = some (brow d).size)
              have HNW := hide (setRow_heap (wr.alloc (.cells (zb 32) 23)) wr.heap.size (zb 32) (brow d) 23 (0, 0) (heap_alloc_new _ _))
              have HKN := hide (((unhide HKJ).alloc (.cells (zb 32) 23)).setRow (g := wr.heap.size) (Or.inr (unhide HKJ).size) (brow d))
              go_wp2_with (first
                | (refine wpList_load_mid rfl 23 (.tmp 29) rfl b (o + j * 32) rfl (d.map Go.Proofs.YtbljofojeagdkaaDoor.u8) _ (unhide HRG) Tryd.underlying23 rfl (by rw [List.length_map, hdl]; exact Tryd.size_dig) ?_)
                | (rw [zb32]; refine wpList_store_row rfl 23 (.tmp 10) _ rfl wr.heap.size (brow d) rfl rfl _ (zb 32) (heap_alloc_new _ _) (unhide HSZ) (by rw [zb_size, brow_size, hdl]) (brow_one _) ?_)
                | (refine wpList_load_row rfl 23 (.tmp 10) rfl wr.heap.size rfl _ (brow d) (0, 0) _ (unhide HNW) Tryd.underlying23 rfl (unhide HSZ) ?_))
              refine Calls.mono (form_any z d _ hz hdl (unhide HD).2) ?_
              rintro e w4 ⟨rfl, k4⟩
              have HK4 := hide ((unhide HKN).trans k4 (by simp))
              clear k4
              cases hf : formB z d with
              | true =>
                rw [hf] at HN
                clear hf
                go_wp2
                go_roundw
                case rel => exact ⟨j + 1, by omega, by go_num, HN, HK4⟩
                case measure => simp [intOf]; omega
              | false =>
                have HF := hide (unhide HM hf)
                clear hf
                go_wp2
                go_ret
                exact ⟨by rw [unhide HF]; rfl, ((unhide HK0).trans (unhide HK1) (by simp)).trans (unhide HK4) (by simp)⟩
            · have hjl' : ¬ (j : Int) < ls.length := by omega
              have hje : j = ls.length := by omega
              subst hje
              rw [List.take_length] at HAJ
              have HQQ := hide ((unhide HQ).1 (unhide HAJ))
              go_wp2
              go_roundw
              case rel => exact ⟨i + 1, by omega, by go_num, hide (unhide HQQ).1, hide (unhide HQQ).2, hide ((unhide HK1).trans (unhide HKJ) (by simp))⟩
              case measure => simp [intOf]; omega
        · have hlt' : ¬ (i : Int) < 2 := by omega
          have HE1 := hide (by rw [← unhide HE]; unfold formedE; rw [if_neg (by rw [unhide HW]; simp), if_pos (by rw [List.all_append, unhide HA (by omega), unhide HB (by omega)]; rfl)] : E = 0)
          go_wp2
          go_ret
          exact ⟨by rw [unhide HE1]; rfl, (unhide HK0).trans (unhide HK1) (by simp)⟩
end Go.Proofs.YtbljofojeagdkaaDoor
