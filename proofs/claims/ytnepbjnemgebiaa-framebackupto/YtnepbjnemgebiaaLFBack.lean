import Derived.Test.YtnepbjnemgebiaaFAw
namespace Go.Proofs.Ytnepbjnemgebiaa
open Go.RowKit Go.BigFrame
set_option linter.unusedVariables false
set_option linter.unusedSimpArgs false

set_option maxRecDepth 100000 in
theorem fits_any (v : Value) (p : List Nat) (w : World) (h : Rd w v p) :
    Calls Try.prog 25 #[v] w fun e w' => e = .returned (.bool (decide (0 < p.length ∧ p.length ≤ 65535))) ∧ w' = w := by
  obtain ⟨a1, n1, c1, rfl, hn1, hc1, ⟨hc2, hc3⟩, _⟩ := id h
  subst hn1
  clear h
  by_cases h0 : 0 < p.length
  · by_cases h1 : p.length ≤ 65535
    · rw [decide_eq_true ⟨h0, h1⟩]
      have h0' : (0 : Int) < p.length := by omega
      have h1' : (p.length : Int) ≤ 65535 := by omega
      go_enter Try.func25, Try.ntmps25
      go_wp2
      go_ret
      exact ⟨rfl, rfl⟩
    · rw [decide_eq_false (fun h => h1 h.2)]
      have h0' : (0 : Int) < p.length := by omega
      have h1' : ¬ (p.length : Int) ≤ 65535 := by omega
      go_enter Try.func25, Try.ntmps25
      go_wp2
      go_ret
      exact ⟨rfl, rfl⟩
  · rw [decide_eq_false (fun h => h0 h.1)]
    have h0' : ¬ (0 : Int) < p.length := by omega
    go_enter Try.func25, Try.ntmps25
    go_wp2
    go_ret
    exact ⟨rfl, rfl⟩

set_option maxRecDepth 100000 in
set_option maxHeartbeats 2000000 in
theorem frameBack_walk (pl : Nat) (v : Value) (p : List Nat) (tv : Value) (t : List Nat) (w : World) (hpl : pl < 18446744073709551616) (h : Rd w v p) (hl : p.length ≤ 1048576) (ht : Rd w tv t) (htl : t.length ≤ 1048576) :
    Calls Try.prog 7 #[.agg #[.int .u64 pl, v], tv] w fun e w' => e = .returned (.bool true) ∧ Below w.heap.size w w' := by
  have H := hide h
  have HT := hide ht
  obtain ⟨a1, n1, c1, rfl, hn1, _⟩ := id h
  subst hn1
  clear h ht
  go_enter Try.func7, Try.ntmps7
  have HZ0 := hide (heap_alloc_new w (.cells #[.int .u64 (pl : Int), .slice a1 p.length c1] 57))
  have HK0 := hide ((Kept.refl [] w).alloc (.cells #[.int .u64 (pl : Int), .slice a1 p.length c1] 57))
  go_wp2_with fail
  refine Calls.mono (fawake_any _) ?_
  rintro e w1 ⟨rfl, k1⟩
  have HZ1 := hide (k1.heap (unhide HZ0) (by simp))
  have HK1 := hide ((unhide HK0).trans k1 (by simp))
  clear k1
  have d0 : w1.cell? ⟨w.heap.size, 0, none⟩ = some (.int .u64 pl) := by rw [cell_of_row _ _ _ _ _ _ (unhide HZ1)]; rfl
  have d1 : w1.cell? ⟨w.heap.size, 1, none⟩ = some (.slice a1 p.length c1) := by rw [cell_of_row _ _ _ _ _ _ (unhide HZ1)]; rfl
  go_wp2_with fail
  have HKd := hide (unhide HK1).drew
  have HZd := hide (show w1.drew.heap[w.heap.size]? = _ from unhide HZ1)
  have HD0 := hide (show w1.drew.cell? ⟨w.heap.size, 0, none⟩ = _ from d0)
  have HD1 := hide (show w1.drew.cell? ⟨w.heap.size, 1, none⟩ = _ from d1)
  go_region_held3 (fun w' => w'.cell? ⟨w.heap.size, 0, none⟩ = some (.int .u64 pl) ∧ w'.cell? ⟨w.heap.size, 1, none⟩ = some (.slice a1 p.length c1)) (go_keep) (first
    | (go_at_call 11; refine (twin_any _ p _ (by exact (unhide H).old (unhide HKd) (by simp))).mono ?_; rintro e w2 ⟨rfl, k2, g2⟩; have e0 := k2.cell (unhide HD0) (by simp); have e1 := k2.cell (unhide HD1) (by simp); have HZ2 := hide (k2.heap (unhide HZd) (by simp)); have HK2 := hide ((unhide HKd).trans k2 (by simp)); have HR2 := hide (rd_fresh g2 (unhide H).byte (unhide H).len); clear k2 g2)
    | (go_at_call 10; refine (made_any pl _ p _ (by exact unhide HR2) hpl).mono ?_; rintro e w3 ⟨v3, rfl, n3, k3⟩; have e0' := k3.cell e0 (by simp); have e1' := k3.cell e1 (by simp); have HZ3 := hide (k3.heap (unhide HZ2) (by simp)); have HK3 := hide ((unhide HK2).trans k3 (by simp)); have HN3 := hide n3.1; clear k3 n3))
  clear HZ1 HK1 HZ2 HR2
  have d0 : w3.cell? ⟨w.heap.size, 0, none⟩ = some (.int .u64 pl) := by rw [cell_of_row _ _ _ _ _ _ (unhide HZ3)]; rfl
  have d1 : w3.cell? ⟨w.heap.size, 1, none⟩ = some (.slice a1 p.length c1) := by rw [cell_of_row _ _ _ _ _ _ (unhide HZ3)]; rfl
  go_wp2_with fail
  refine Calls.mono (fits_any _ p w3 ((unhide H).old (unhide HK3) (by simp))) ?_
  rintro e w4 ⟨rfl, rfl⟩
  by_cases hf : 0 < p.length ∧ p.length ≤ 65535
  · rw [decide_eq_true hf]
    have hE : encE p = 0 := by unfold encE; rw [if_neg (by omega), if_neg (by omega)]
    have hB : encB pl p = frB pl p := by unfold encB; rw [hE]; rfl
    rw [hE]
    rw [hB] at HN3
    clear hE hB
    have hfl := frB_len pl p
    have HLN := hide hfl
    obtain ⟨F, hF⟩ : ∃ F, frB pl p = F := ⟨_, rfl⟩
    rw [hF] at HN3 hfl
    have HFF := hide hF
    clear hF
    obtain ⟨a3, m3, c3, rfl, hm3, _⟩ := id (unhide HN3)
    rw [hfl] at hm3
    subst hm3
    go_wp2_with fail
    refine Calls.mono (join_any _ tv F t w4 (unhide HN3) ((unhide HT).old (unhide HK3) (by simp)) (by omega)) ?_
    rintro e w5 ⟨v5, rfl, r5, k5, _⟩
    have HR5 := hide r5
    have HK5 := hide ((unhide HK3).trans k5 (by simp))
    have HZ5 := hide (k5.heap (unhide HZ3) (by simp))
    clear r5 k5
    go_wp2_with fail
    refine Calls.mono (next_any v5 (F ++ t) 0 w5 (unhide HR5) (by decide)) ?_
    rintro e w6 ⟨v6, rfl, n6, k6⟩
    rw [← unhide HFF, nextF_frB pl p t hpl (by omega) hf.2 (unhide H).byte] at n6 ⊢
    have HN6 := hide n6.1
    have HK6 := hide ((unhide HK5).trans k6 (by simp))
    have HZ6 := hide (k6.heap (unhide HZ5) (by simp))
    obtain ⟨a6, m6, c6, rfl, hm6, _⟩ := id n6.1
    simp only at hm6
    subst hm6
    clear k6 n6 d0 d1
    have d0 : ∀ ob, (w6.alloc ob).cell? ⟨w.heap.size, 0, none⟩ = some (.int .u64 pl) := fun ob => by rw [cell_of_row _ _ _ _ _ _ (((Kept.refl [] w6).alloc ob).heap (unhide HZ6) (by simp))]; rfl
    have d1 : ∀ ob, (w6.alloc ob).cell? ⟨w.heap.size, 1, none⟩ = some (.slice a1 p.length c1) := fun ob => by rw [cell_of_row _ _ _ _ _ _ (((Kept.refl [] w6).alloc ob).heap (unhide HZ6) (by simp))]; rfl
    simp only at HN6 ⊢
    go_wp2_with fail
    refine Calls.mono (fsame_any pl pl _ _ p p _ ((unhide HN6).old ((Kept.refl [] w6).alloc _) (by simp)) ((unhide H).old ((unhide HK6).alloc _) (by simp))) ?_
    rintro e w7 ⟨rfl, k7⟩
    have HK7 := hide (((unhide HK6).alloc _).trans k7 (by simp))
    clear k7
    rw [show (decide (pl = pl) && decide (p = p)) = true by simp]
    go_wp2
    go_ret
    exact ⟨rfl, (unhide HK7).below (Nat.le_refl _) (by simp)⟩
  · rw [decide_eq_false hf]
    have hB : encB pl p = [] := by
      unfold encB
      rw [if_neg]
      unfold encE
      split
      · simp
      · split
        · simp
        · omega
    rw [hB] at HN3
    obtain ⟨a3, m3, c3, rfl, hm3, _⟩ := id (unhide HN3)
    simp at hm3
    subst hm3
    clear hB
    by_cases h0 : p.length = 0
    · have hE : encE p = 3 := by unfold encE; rw [if_neg (by omega), if_pos h0]
      have h0' : (p.length : Int) = 0 := by omega
      rw [hE]
      go_wp2
      go_ret
      exact ⟨rfl, (unhide HK3).below (Nat.le_refl _) (by simp)⟩
    · have h6 : 65535 < p.length := by omega
      have hE : encE p = 2 := by unfold encE; rw [if_pos h6]
      have h0' : (0 : Int) < p.length := by omega
      have h0'' : ((p.length : Int) == 0) = false := by rw [beq_eq_false_iff_ne]; omega
      rw [hE]
      go_wp2
      go_ret
      exact ⟨rfl, (unhide HK3).below (Nat.le_refl _) (by simp)⟩
end Go.Proofs.Ytnepbjnemgebiaa
