import Derived.Test.YtagpmgbmfoojiaaDoorCAw
namespace Go.Proofs.YtagpmgbmfoojiaaDoor
open Go.RowKit
set_option linter.unusedVariables false
set_option linter.unusedSimpArgs false

theorem zeros_map (n : Nat) : zeros n = (List.replicate n 0).map u8 := by simp [zeros]
theorem Rd.cut {w : World} {ao : Option Addr} {len cap : Nat} {p : List Nat} (h : Rd w (.slice ao len cap) p) (n : Nat) (hn : n ≤ p.length) : Rd w (.slice ao n cap) (p.take n) := by
  obtain ⟨ao', len', cap', he, h1, h2, ⟨h3, h3'⟩, h4, h5, h6⟩ := h
  cases he
  refine ⟨_, _, _, rfl, by simp; omega, by omega, ⟨h3, by omega⟩, h4, fun x hx => h5 x (List.mem_of_mem_take hx), fun hp => ?_⟩
  obtain ⟨b, off, rfl, hc⟩ := h6 (by omega)
  refine ⟨b, off, rfl, fun i hi => ?_⟩
  rw [hc i (by omega)]
  simp [List.getD_eq_getElem?_getD, List.getElem?_take, hi]

set_option maxRecDepth 100000 in
set_option maxHeartbeats 2000000 in
theorem crcLinear_p (v : Value) (p : List Nat) (u : Value) (q : List Nat) (w : World) (h : Rd w v p) (hl : p.length ≤ 140737488355328) (g : Rd w u q) (hl2 : q.length ≤ 140737488355328) (hT : Tab w) (hpq : (p.length : Int) ≤ q.length) :
    Calls Tryd.prog 8 #[v, u] w fun e w' => e = .returned (.bool true) ∧ Below w.heap.size w w' := by
  have H := hide h
  have G := hide g
  have HT := hide hT
  have HPb := hide h.byte
  have HQb := hide g.byte
  obtain ⟨ao, len, cap, rfl, rfl, h2, ⟨h3, h3'⟩, h4, h5, h6⟩ := h
  obtain ⟨bo, len', cap', rfl, rfl, g2, ⟨g3, g3'⟩, g4, g5, g6⟩ := g
  have H6 := hide h6
  have G6 := hide g6
  clear hT h4 h5 h6 g4 g5 g6
  have hmk := run_make_row' (P := Tryd.prog) 23 5 (.int .u8 0) 1 Tryd.underlying23 Tryd.info5 rfl .i64 .i64 p.length (by omega) (by omega)
  simp only [madeZeros] at hmk
  go_enter Tryd.func8, Tryd.ntmps8
  go_wp2_with fail
  refine (cawake_any w (unhide HT)).mono ?_
  rintro e w1 ⟨rfl, k1⟩
  have HK1 := hide k1
  clear k1
  go_wp2
  have HA := hide (by rw [zeros_map]; exact heap_alloc2_old w1 _ _ : ((w1.alloc (.cells (zeros p.length).toArray 5)).alloc (.cells (zeros p.length).toArray 5)).drew.heap[w1.heap.size]? = some (.cells ((List.replicate p.length 0).map u8).toArray 5 (0, 0)))
  have HB := hide (by rw [zeros_map]; exact heap_alloc2_new w1 _ _ : ((w1.alloc (.cells (zeros p.length).toArray 5)).alloc (.cells (zeros p.length).toArray 5)).drew.heap[w1.heap.size + 1]? = some (.cells ((List.replicate p.length 0).map u8).toArray 5 (0, 0)))
  have HKK := hide (((unhide HK1).alloc (.cells (zeros p.length).toArray 5)).alloc (.cells (zeros p.length).toArray 5)).drew
  have Hs0 := hide (unhide HK1).size
  have Hs1 := hide (show w.heap.size ≤ w1.heap.size + 1 by have := (unhide HK1).size; omega)
  have hne1 : w1.heap.size ≠ w1.heap.size + 1 := by omega
  have hne2 : w1.heap.size + 1 ≠ w1.heap.size := by omega
  have HX0 := hide (⟨by simp, by intro x hx; simp at hx; omega, by intro i hi; omega⟩ : (List.replicate p.length 0).length = p.length ∧ (∀ x ∈ List.replicate p.length 0, x < 256) ∧ ∀ i, i < 0 → (List.replicate p.length 0).getD i 0 = p.getD i 0 ^^^ q.getD i 0)
  go_region
  obtain ⟨gz, egz⟩ : ∃ gz, w1.heap.size + 1 = gz := ⟨_, rfl⟩
  obtain ⟨gx, egx⟩ : ∃ gx, w1.heap.size = gx := ⟨_, rfl⟩
  have HRX0 := HA
  have HRZ0 := HB
  have HG := Hs0
  have hgne := hne1
  rw [egz] at HRZ0 hgne ⊢
  rw [egx] at HRX0 HG hgne ⊢
  rotate_left
  obtain ⟨gx, egx⟩ : ∃ gx, w1.heap.size + 1 = gx := ⟨_, rfl⟩
  obtain ⟨gz, egz⟩ : ∃ gz, w1.heap.size = gz := ⟨_, rfl⟩
  have HRX0 := HB
  have HRZ0 := HA
  have HG := Hs1
  have hgne := hne2
  rw [egx] at HRX0 HG hgne ⊢
  rw [egz] at HRZ0 hgne ⊢
  rotate_left
  all_goals
    obtain ⟨W0, hW0⟩ : ∃ W0, ((w1.alloc (.cells (zeros p.length).toArray 5)).alloc (.cells (zeros p.length).toArray 5)).drew = W0 := ⟨_, rfl⟩
    rw [hW0] at HRX0 HRZ0 HKK ⊢
    clear HA HB Hs0 Hs1 hne1 hne2 egx egz hW0
    go_wp2
    go_loopw [22] (fun t22 wr => ∃ (k : Nat) (xs : List Nat), k ≤ p.length ∧ t22 = .int .i64 k ∧ Hid (xs.length = p.length ∧ (∀ x ∈ xs, x < 256) ∧ ∀ i, i < k → xs.getD i 0 = p.getD i 0 ^^^ q.getD i 0) ∧ Hid (wr.heap[gx]? = some (.cells (xs.map u8).toArray 5 (0, 0))) ∧ Hid (wr.heap[gz]? = some (.cells ((List.replicate p.length 0).map u8).toArray 5 (0, 0))) ∧ Hid (Kept [] w wr)) (fun t _ => p.length - (intOf t).toNat)
    case atStart => exact ⟨0, _, Nat.zero_le _, rfl, HX0, HRX0, HRZ0, HKK⟩
    case round =>
      obtain ⟨k, xs, hk, rfl, HX, HRX, HRZ, HK⟩ := hrel
      by_cases hlt : k < p.length
      · have hlt' : (k : Int) < p.length := by omega
        have hltp : (k : Int) < p.length := by omega
        have hltq : (k : Int) < q.length := by omega
        obtain ⟨bp, op, rfl, hcp⟩ := unhide H6 (by omega)
        obtain ⟨bq, oq, rfl, hcq⟩ := unhide G6 (by omega)
        have cp := (unhide HK).cell (hcp k (by omega)) (by simp)
        have cq := (unhide HK).cell (hcq k (by omega)) (by simp)
        have bp1 := getD_byte (unhide HPb) k
        have bq1 := getD_byte (unhide HQb) k
        have fg : wr.frozen? ⟨gx, k, none⟩ = false := frozen_of_row _ _ _ _ _ (unhide HRX)
        have cg : wr.cell? ⟨gx, k, none⟩ = some (Go.Proofs.YtagpmgbmfoojiaaDoor.u8 (xs.getD k 0)) := by
          rw [cell_of_row _ _ _ _ _ _ (unhide HRX)]; simp [List.getD_eq_getElem?_getD, List.getElem?_eq_getElem (show k < xs.length by rw [(unhide HX).1]; exact hlt)]
        obtain ⟨y, hy⟩ : ∃ y, p.getD k 0 = y := ⟨_, rfl⟩
        obtain ⟨z, hz⟩ : ∃ z, q.getD k 0 = z := ⟨_, rfl⟩
        rw [hy] at cp bp1
        rw [hz] at cq bq1
        have hbx : bits .xor .u8 (y : Int) (z : Int) = ((y ^^^ z : Nat) : Int) := u8_xor_nat y z bp1 bq1
        have hzb : y ^^^ z < 256 := Nat.xor_lt_two_pow (n := 8) bp1 bq1
        have HXN := hide (⟨by simpa using (unhide HX).1, fun x hx => by
            rcases List.mem_or_eq_of_mem_set hx with h3 | h3
            · exact (unhide HX).2.1 x h3
            · omega, fun i hi => by
            by_cases hik : i = k
            · subst hik; rw [getD_set_same _ _ _ (by rw [(unhide HX).1]; exact hlt), hy, hz]
            · rw [getD_set_other _ _ _ _ hik]; exact (unhide HX).2.2 i (by omega)⟩ : (xs.set k (y ^^^ z)).length = p.length ∧ (∀ x ∈ xs.set k (y ^^^ z), x < 256) ∧ ∀ i, i < k + 1 → (xs.set k (y ^^^ z)).getD i 0 = p.getD i 0 ^^^ q.getD i 0)
        clear hy hz hcp hcq
        generalize y ^^^ z = x at hbx hzb HXN
        have HN := hide (by
          have h1 := heap_setCell_same wr gx k _ 5 (Go.Proofs.YtagpmgbmfoojiaaDoor.u8 x) (unhide HRX)
          rw [List.setIfInBounds_toArray, ← List.map_set] at h1; exact h1 : (wr.setCell ⟨gx, k, none⟩ (Go.Proofs.YtagpmgbmfoojiaaDoor.u8 x)).heap[gx]? = some (.cells ((xs.set k x).map Go.Proofs.YtagpmgbmfoojiaaDoor.u8).toArray 5 (0, 0)))
        have HZN := hide ((heap_setCell_other wr ⟨gx, k, none⟩ gz (Go.Proofs.YtagpmgbmfoojiaaDoor.u8 x) (fun e => hgne e.symm)).trans (unhide HRZ))
        have HKN := hide ((unhide HK).setCell (p := ⟨gx, k, none⟩) (Or.inr (unhide HG)) (Go.Proofs.YtagpmgbmfoojiaaDoor.u8 x))
        go_wp2
        go_region
        all_goals
          go_wp2
          go_roundw
          case rel => exact ⟨k + 1, _, by omega, by go_num, HXN, hide (unhide HN), hide (unhide HZN), hide (unhide HKN).drew⟩
          case measure => simp [intOf]; omega
      · have hlt' : ¬ (k : Int) < p.length := by omega
        have hkn : k = p.length := by omega
        subst hkn
        have HP1 := hide (((unhide H).old (unhide HK) (by simp)).cut p.length (by omega))
        have HQ1 := hide (((unhide G).old (unhide HK) (by simp)).cut p.length (by omega))
        have HX1 := hide (by
          have h1 := rd_fresh (unhide HRX) (unhide HX).2.1 (by rw [(unhide HX).1]; omega)
          rw [(unhide HX).1] at h1; exact h1 : Rd wr (.slice (some ⟨gx, 0, none⟩) p.length p.length) xs)
        have HZ1 := hide (by
          have h1 := rd_fresh (unhide HRZ) (by intro x hx; simp at hx; omega) (by simp; omega)
          simpa using h1 : Rd wr (.slice (some ⟨gz, 0, none⟩) p.length p.length) (List.replicate p.length 0))
        have hxe : xs = List.zipWith (· ^^^ ·) (p.take p.length) (q.take p.length) := by
          apply List.ext_getElem
          · rw [(unhide HX).1]; simp; omega
          · intro i h1 h2
            rw [(unhide HX).1] at h1
            have := (unhide HX).2.2 i h1
            simp only [List.getD_eq_getElem?_getD, List.getElem?_eq_getElem (show i < xs.length by rw [(unhide HX).1]; exact h1), List.getElem?_eq_getElem (show i < p.length by omega), List.getElem?_eq_getElem (show i < q.length by omega), Option.getD_some] at this
            simp [this]
        have HS := hide (upd_linear (p.take p.length) (q.take p.length) p.length (by simp only [List.length_take]; omega) (by simp only [List.length_take]; omega))
        rw [← hxe] at HS
        have b1 := upd_lt (c := 0) (by decide) (unhide HP1).byte
        have b2 := upd_lt (c := 0) (by decide) (unhide HQ1).byte
        have b3 := upd_lt (c := 0) (by decide) (unhide HX1).byte
        clear hxe
        have hx1 : bits .xor .u32 (upd 0 (p.take p.length) : Int) (upd 0 (q.take p.length) : Int) = ((upd 0 (p.take p.length) ^^^ upd 0 (q.take p.length) : Nat) : Int) := u32_xor_nat _ _ b1 b2
        have hx2 : bits .xor .u32 ((upd 0 (p.take p.length) ^^^ upd 0 (q.take p.length) : Nat) : Int) (upd 0 xs : Int) = ((upd 0 (p.take p.length) ^^^ upd 0 (q.take p.length) ^^^ upd 0 xs : Nat) : Int) := u32_xor_nat _ _ (xlt b1 b2) b3
        rw [unhide HS] at hx2
        simp only [List.take_length] at hx1 hx2
        go_wp2_with fail
        have hcapp : (p.length : Int) ≤ (cap : Int) := by omega
        have hcapq : (p.length : Int) ≤ (cap' : Int) := by omega
        go_quiet (first
          | (go_at_call 13; exact Calls.quiet_of_same (sum_any (.slice ao p.length cap) (p.take p.length) _ ((unhide HP1).kept ((Kept.refl [] wr).drewN _) (by simp))))
          | (go_at_call 13; exact Calls.quiet_of_same (sum_any (.slice bo p.length cap') (q.take p.length) _ ((unhide HQ1).kept ((Kept.refl [] wr).drewN _) (by simp))))
          | (go_at_call 13; exact Calls.quiet_of_same (sum_any (.slice (some ⟨gx, 0, none⟩) p.length p.length) xs _ ((unhide HX1).kept ((Kept.refl [] wr).drewN _) (by simp))))
          | (go_at_call 13; exact Calls.quiet_of_same (sum_any (.slice (some ⟨gz, 0, none⟩) p.length p.length) (List.replicate p.length 0) _ ((unhide HZ1).kept ((Kept.refl [] wr).drewN _) (by simp)))))
        go_wp2
        go_ret
        exact ⟨by simp, ((unhide HK).drewN _).below (Nat.le_refl _) (by simp)⟩

set_option maxRecDepth 100000 in
set_option maxHeartbeats 2000000 in
theorem crcLinear_q (v : Value) (p : List Nat) (u : Value) (q : List Nat) (w : World) (h : Rd w v p) (hl : p.length ≤ 140737488355328) (g : Rd w u q) (hl2 : q.length ≤ 140737488355328) (hT : Tab w) (hpq : ¬ (p.length : Int) ≤ q.length) :
    Calls Tryd.prog 8 #[v, u] w fun e w' => e = .returned (.bool true) ∧ Below w.heap.size w w' := by
  have H := hide h
  have G := hide g
  have HT := hide hT
  have HPb := hide h.byte
  have HQb := hide g.byte
  obtain ⟨ao, len, cap, rfl, rfl, h2, ⟨h3, h3'⟩, h4, h5, h6⟩ := h
  obtain ⟨bo, len', cap', rfl, rfl, g2, ⟨g3, g3'⟩, g4, g5, g6⟩ := g
  have H6 := hide h6
  have G6 := hide g6
  clear hT h4 h5 h6 g4 g5 g6
  have hmk := run_make_row' (P := Tryd.prog) 23 5 (.int .u8 0) 1 Tryd.underlying23 Tryd.info5 rfl .i64 .i64 q.length (by omega) (by omega)
  simp only [madeZeros] at hmk
  go_enter Tryd.func8, Tryd.ntmps8
  go_wp2_with fail
  refine (cawake_any w (unhide HT)).mono ?_
  rintro e w1 ⟨rfl, k1⟩
  have HK1 := hide k1
  clear k1
  go_wp2
  have HA := hide (by rw [zeros_map]; exact heap_alloc2_old w1 _ _ : ((w1.alloc (.cells (zeros q.length).toArray 5)).alloc (.cells (zeros q.length).toArray 5)).drew.heap[w1.heap.size]? = some (.cells ((List.replicate q.length 0).map u8).toArray 5 (0, 0)))
  have HB := hide (by rw [zeros_map]; exact heap_alloc2_new w1 _ _ : ((w1.alloc (.cells (zeros q.length).toArray 5)).alloc (.cells (zeros q.length).toArray 5)).drew.heap[w1.heap.size + 1]? = some (.cells ((List.replicate q.length 0).map u8).toArray 5 (0, 0)))
  have HKK := hide (((unhide HK1).alloc (.cells (zeros q.length).toArray 5)).alloc (.cells (zeros q.length).toArray 5)).drew
  have Hs0 := hide (unhide HK1).size
  have Hs1 := hide (show w.heap.size ≤ w1.heap.size + 1 by have := (unhide HK1).size; omega)
  have hne1 : w1.heap.size ≠ w1.heap.size + 1 := by omega
  have hne2 : w1.heap.size + 1 ≠ w1.heap.size := by omega
  have HX0 := hide (⟨by simp, by intro x hx; simp at hx; omega, by intro i hi; omega⟩ : (List.replicate q.length 0).length = q.length ∧ (∀ x ∈ List.replicate q.length 0, x < 256) ∧ ∀ i, i < 0 → (List.replicate q.length 0).getD i 0 = p.getD i 0 ^^^ q.getD i 0)
  go_region
  obtain ⟨gz, egz⟩ : ∃ gz, w1.heap.size + 1 = gz := ⟨_, rfl⟩
  obtain ⟨gx, egx⟩ : ∃ gx, w1.heap.size = gx := ⟨_, rfl⟩
  have HRX0 := HA
  have HRZ0 := HB
  have HG := Hs0
  have hgne := hne1
  rw [egz] at HRZ0 hgne ⊢
  rw [egx] at HRX0 HG hgne ⊢
  rotate_left
  obtain ⟨gx, egx⟩ : ∃ gx, w1.heap.size + 1 = gx := ⟨_, rfl⟩
  obtain ⟨gz, egz⟩ : ∃ gz, w1.heap.size = gz := ⟨_, rfl⟩
  have HRX0 := HB
  have HRZ0 := HA
  have HG := Hs1
  have hgne := hne2
  rw [egx] at HRX0 HG hgne ⊢
  rw [egz] at HRZ0 hgne ⊢
  rotate_left
  all_goals
    obtain ⟨W0, hW0⟩ : ∃ W0, ((w1.alloc (.cells (zeros q.length).toArray 5)).alloc (.cells (zeros q.length).toArray 5)).drew = W0 := ⟨_, rfl⟩
    rw [hW0] at HRX0 HRZ0 HKK ⊢
    clear HA HB Hs0 Hs1 hne1 hne2 egx egz hW0
    go_wp2
    go_loopw [22] (fun t22 wr => ∃ (k : Nat) (xs : List Nat), k ≤ q.length ∧ t22 = .int .i64 k ∧ Hid (xs.length = q.length ∧ (∀ x ∈ xs, x < 256) ∧ ∀ i, i < k → xs.getD i 0 = p.getD i 0 ^^^ q.getD i 0) ∧ Hid (wr.heap[gx]? = some (.cells (xs.map u8).toArray 5 (0, 0))) ∧ Hid (wr.heap[gz]? = some (.cells ((List.replicate q.length 0).map u8).toArray 5 (0, 0))) ∧ Hid (Kept [] w wr)) (fun t _ => q.length - (intOf t).toNat)
    case atStart => exact ⟨0, _, Nat.zero_le _, rfl, HX0, HRX0, HRZ0, HKK⟩
    case round =>
      obtain ⟨k, xs, hk, rfl, HX, HRX, HRZ, HK⟩ := hrel
      by_cases hlt : k < q.length
      · have hlt' : (k : Int) < q.length := by omega
        have hltp : (k : Int) < p.length := by omega
        have hltq : (k : Int) < q.length := by omega
        obtain ⟨bp, op, rfl, hcp⟩ := unhide H6 (by omega)
        obtain ⟨bq, oq, rfl, hcq⟩ := unhide G6 (by omega)
        have cp := (unhide HK).cell (hcp k (by omega)) (by simp)
        have cq := (unhide HK).cell (hcq k (by omega)) (by simp)
        have bp1 := getD_byte (unhide HPb) k
        have bq1 := getD_byte (unhide HQb) k
        have fg : wr.frozen? ⟨gx, k, none⟩ = false := frozen_of_row _ _ _ _ _ (unhide HRX)
        have cg : wr.cell? ⟨gx, k, none⟩ = some (Go.Proofs.YtagpmgbmfoojiaaDoor.u8 (xs.getD k 0)) := by
          rw [cell_of_row _ _ _ _ _ _ (unhide HRX)]; simp [List.getD_eq_getElem?_getD, List.getElem?_eq_getElem (show k < xs.length by rw [(unhide HX).1]; exact hlt)]
        obtain ⟨y, hy⟩ : ∃ y, p.getD k 0 = y := ⟨_, rfl⟩
        obtain ⟨z, hz⟩ : ∃ z, q.getD k 0 = z := ⟨_, rfl⟩
        rw [hy] at cp bp1
        rw [hz] at cq bq1
        have hbx : bits .xor .u8 (y : Int) (z : Int) = ((y ^^^ z : Nat) : Int) := u8_xor_nat y z bp1 bq1
        have hzb : y ^^^ z < 256 := Nat.xor_lt_two_pow (n := 8) bp1 bq1
        have HXN := hide (⟨by simpa using (unhide HX).1, fun x hx => by
            rcases List.mem_or_eq_of_mem_set hx with h3 | h3
            · exact (unhide HX).2.1 x h3
            · omega, fun i hi => by
            by_cases hik : i = k
            · subst hik; rw [getD_set_same _ _ _ (by rw [(unhide HX).1]; exact hlt), hy, hz]
            · rw [getD_set_other _ _ _ _ hik]; exact (unhide HX).2.2 i (by omega)⟩ : (xs.set k (y ^^^ z)).length = q.length ∧ (∀ x ∈ xs.set k (y ^^^ z), x < 256) ∧ ∀ i, i < k + 1 → (xs.set k (y ^^^ z)).getD i 0 = p.getD i 0 ^^^ q.getD i 0)
        clear hy hz hcp hcq
        generalize y ^^^ z = x at hbx hzb HXN
        have HN := hide (by
          have h1 := heap_setCell_same wr gx k _ 5 (Go.Proofs.YtagpmgbmfoojiaaDoor.u8 x) (unhide HRX)
          rw [List.setIfInBounds_toArray, ← List.map_set] at h1; exact h1 : (wr.setCell ⟨gx, k, none⟩ (Go.Proofs.YtagpmgbmfoojiaaDoor.u8 x)).heap[gx]? = some (.cells ((xs.set k x).map Go.Proofs.YtagpmgbmfoojiaaDoor.u8).toArray 5 (0, 0)))
        have HZN := hide ((heap_setCell_other wr ⟨gx, k, none⟩ gz (Go.Proofs.YtagpmgbmfoojiaaDoor.u8 x) (fun e => hgne e.symm)).trans (unhide HRZ))
        have HKN := hide ((unhide HK).setCell (p := ⟨gx, k, none⟩) (Or.inr (unhide HG)) (Go.Proofs.YtagpmgbmfoojiaaDoor.u8 x))
        go_wp2
        go_region
        all_goals
          go_wp2
          go_roundw
          case rel => exact ⟨k + 1, _, by omega, by go_num, HXN, hide (unhide HN), hide (unhide HZN), hide (unhide HKN).drew⟩
          case measure => simp [intOf]; omega
      · have hlt' : ¬ (k : Int) < q.length := by omega
        have hkn : k = q.length := by omega
        subst hkn
        have HP1 := hide (((unhide H).old (unhide HK) (by simp)).cut q.length (by omega))
        have HQ1 := hide (((unhide G).old (unhide HK) (by simp)).cut q.length (by omega))
        have HX1 := hide (by
          have h1 := rd_fresh (unhide HRX) (unhide HX).2.1 (by rw [(unhide HX).1]; omega)
          rw [(unhide HX).1] at h1; exact h1 : Rd wr (.slice (some ⟨gx, 0, none⟩) q.length q.length) xs)
        have HZ1 := hide (by
          have h1 := rd_fresh (unhide HRZ) (by intro x hx; simp at hx; omega) (by simp; omega)
          simpa using h1 : Rd wr (.slice (some ⟨gz, 0, none⟩) q.length q.length) (List.replicate q.length 0))
        have hxe : xs = List.zipWith (· ^^^ ·) (p.take q.length) (q.take q.length) := by
          apply List.ext_getElem
          · rw [(unhide HX).1]; simp; omega
          · intro i h1 h2
            rw [(unhide HX).1] at h1
            have := (unhide HX).2.2 i h1
            simp only [List.getD_eq_getElem?_getD, List.getElem?_eq_getElem (show i < xs.length by rw [(unhide HX).1]; exact h1), List.getElem?_eq_getElem (show i < p.length by omega), List.getElem?_eq_getElem (show i < q.length by omega), Option.getD_some] at this
            simp [this]
        have HS := hide (upd_linear (p.take q.length) (q.take q.length) q.length (by simp only [List.length_take]; omega) (by simp only [List.length_take]; omega))
        rw [← hxe] at HS
        have b1 := upd_lt (c := 0) (by decide) (unhide HP1).byte
        have b2 := upd_lt (c := 0) (by decide) (unhide HQ1).byte
        have b3 := upd_lt (c := 0) (by decide) (unhide HX1).byte
        clear hxe
        have hx1 : bits .xor .u32 (upd 0 (p.take q.length) : Int) (upd 0 (q.take q.length) : Int) = ((upd 0 (p.take q.length) ^^^ upd 0 (q.take q.length) : Nat) : Int) := u32_xor_nat _ _ b1 b2
        have hx2 : bits .xor .u32 ((upd 0 (p.take q.length) ^^^ upd 0 (q.take q.length) : Nat) : Int) (upd 0 xs : Int) = ((upd 0 (p.take q.length) ^^^ upd 0 (q.take q.length) ^^^ upd 0 xs : Nat) : Int) := u32_xor_nat _ _ (xlt b1 b2) b3
        rw [unhide HS] at hx2
        simp only [List.take_length] at hx1 hx2
        go_wp2_with fail
        have hcapp : (q.length : Int) ≤ (cap : Int) := by omega
        have hcapq : (q.length : Int) ≤ (cap' : Int) := by omega
        go_quiet (first
          | (go_at_call 13; exact Calls.quiet_of_same (sum_any (.slice ao q.length cap) (p.take q.length) _ ((unhide HP1).kept ((Kept.refl [] wr).drewN _) (by simp))))
          | (go_at_call 13; exact Calls.quiet_of_same (sum_any (.slice bo q.length cap') (q.take q.length) _ ((unhide HQ1).kept ((Kept.refl [] wr).drewN _) (by simp))))
          | (go_at_call 13; exact Calls.quiet_of_same (sum_any (.slice (some ⟨gx, 0, none⟩) q.length q.length) xs _ ((unhide HX1).kept ((Kept.refl [] wr).drewN _) (by simp))))
          | (go_at_call 13; exact Calls.quiet_of_same (sum_any (.slice (some ⟨gz, 0, none⟩) q.length q.length) (List.replicate q.length 0) _ ((unhide HZ1).kept ((Kept.refl [] wr).drewN _) (by simp)))))
        go_wp2
        go_ret
        exact ⟨by simp, ((unhide HK).drewN _).below (Nat.le_refl _) (by simp)⟩

theorem crcLinear_walk (v : Value) (p : List Nat) (u : Value) (q : List Nat) (w : World) (h : Rd w v p) (hl : p.length ≤ 140737488355328) (g : Rd w u q) (hl2 : q.length ≤ 140737488355328) (hT : Tab w) :
    Calls Tryd.prog 8 #[v, u] w fun e w' => e = .returned (.bool true) ∧ Below w.heap.size w w' := by
  by_cases hpq : (p.length : Int) ≤ q.length
  · exact crcLinear_p v p u q w h hl g hl2 hT hpq
  · exact crcLinear_q v p u q w h hl g hl2 hT hpq
end Go.Proofs.YtagpmgbmfoojiaaDoor
