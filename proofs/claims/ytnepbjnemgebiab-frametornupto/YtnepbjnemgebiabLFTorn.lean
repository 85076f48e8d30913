import Derived.Test.YtnepbjnemgebiabFFits
import Derived.Test.YtnepbjnemgebiabFScan
import Derived.Deep.RegionHeld3
namespace Go.Proofs.Ytnepbjnemgebiab
open Go.RowKit Go.BigFrame
set_option linter.unusedVariables false
set_option linter.unusedSimpArgs false

theorem scanF_none {p : List Nat} (h : firstF p = none) : scanF p = ([], 0) := scanL_none (by rw [List.drop_zero]; exact h)
theorem nextF_torn {p : List Nat} (h : firstF p = none) : nextF p 0 = ⟨0, [], 0, if p.length = 0 then 0 else 2⟩ := by
  unfold nextF
  by_cases h0 : p.length = 0
  · rw [if_pos (by omega), if_pos h0]
  · rw [if_neg (by omega), if_neg (by omega), Int.toNat_zero, List.drop_zero, h, if_neg h0]

set_option maxRecDepth 100000 in
set_option maxHeartbeats 2000000 in
theorem frameTorn_walk (pl : Nat) (v : Value) (p : List Nat) (z y : Int) (w : World) (hpl : pl < 18446744073709551616) (h : Rd w v p) (hl : p.length ≤ 1048576) (hz : -9223372036854775808 ≤ z ∧ z ≤ 9223372036854775807) (hy : -9223372036854775808 ≤ y ∧ y ≤ 9223372036854775807) :
    Calls Try.prog 3 #[.agg #[.int .u64 pl, v], .int .i64 z, .int .i64 y] w fun e w' => e = .returned (.bool true) ∧ Below w.heap.size w w' := by
  have H := hide h
  obtain ⟨a1, n1, c1, rfl, hn1, _⟩ := id h
  subst hn1
  clear h
  go_enter Try.func3, Try.ntmps3
  have HZ0 := hide (heap_alloc_new w (.cells #[.int .u64 (pl : Int), .slice a1 p.length c1] 25))
  have HK0 := hide ((Kept.refl [] w).alloc (.cells #[.int .u64 (pl : Int), .slice a1 p.length c1] 25))
  go_wp2_with fail
  refine Calls.mono (fawake_any _) ?_
  rintro e w1 ⟨rfl, k1⟩
  have HZ1 := hide (k1.heap (unhide HZ0) (by simp))
  have HK1 := hide ((unhide HK0).trans k1 (by simp))
  clear k1
  have d0 : w1.cell? ⟨w.heap.size, 0, none⟩ = some (.int .u64 pl) := by rw [cell_of_row _ _ _ _ _ _ (unhide HZ1)]; rfl
  have d1 : w1.cell? ⟨w.heap.size, 1, none⟩ = some (.slice a1 p.length c1) := by rw [cell_of_row _ _ _ _ _ _ (unhide HZ1)]; rfl
  go_wp2_with fail
  have HKd := hide (unhide HK1).drew
  have HZd := hide (show w1.drew.heap[w.heap.size]? = _ from unhide HZ1)
  have HD0 := hide (show w1.drew.cell? ⟨w.heap.size, 0, none⟩ = _ from d0)
  have HD1 := hide (show w1.drew.cell? ⟨w.heap.size, 1, none⟩ = _ from d1)
  go_region_held3 (fun w' => w'.cell? ⟨w.heap.size, 0, none⟩ = some (.int .u64 pl) ∧ w'.cell? ⟨w.heap.size, 1, none⟩ = some (.slice a1 p.length c1)) (go_keep) (first
    | (go_at_call 9; refine (twin_any _ p _ (by exact (unhide H).old (unhide HKd) (by simp))).mono ?_; rintro e w2 ⟨rfl, k2, g2⟩; have e0 := k2.cell (unhide HD0) (by simp); have e1 := k2.cell (unhide HD1) (by simp); have HZ2 := hide (k2.heap (unhide HZd) (by simp)); have HK2 := hide ((unhide HKd).trans k2 (by simp)); have HR2 := hide (rd_fresh g2 (unhide H).byte (unhide H).len); clear k2 g2)
    | (go_at_call 8; refine (made_any pl _ p _ (by exact unhide HR2) hpl).mono ?_; rintro e w3 ⟨v3, rfl, n3, k3⟩; have e0' := k3.cell e0 (by simp); have e1' := k3.cell e1 (by simp); have HZ3 := hide (k3.heap (unhide HZ2) (by simp)); have HK3 := hide ((unhide HK2).trans k3 (by simp)); have HN3 := hide n3.1; clear k3 n3))
  clear HZ1 HK1 HZ2 HR2
  have d0 : w3.cell? ⟨w.heap.size, 0, none⟩ = some (.int .u64 pl) := by rw [cell_of_row _ _ _ _ _ _ (unhide HZ3)]; rfl
  have d1 : w3.cell? ⟨w.heap.size, 1, none⟩ = some (.slice a1 p.length c1) := by rw [cell_of_row _ _ _ _ _ _ (unhide HZ3)]; rfl
  by_cases hf : 0 < p.length ∧ p.length ≤ 65535
  · rw [encE_good (by omega) hf.2]
    rw [encB_good (by omega) hf.2] at HN3
    have hfl := frB_len pl p
    obtain ⟨a3, m3, c3, rfl, hm3, hq1, ⟨hq2, _⟩, _⟩ := id (unhide HN3)
    rw [hfl] at hm3
    subst hm3
    go_wp2_with fail
    refine Calls.mono (fits_any _ p w3 ((unhide H).old (unhide HK3) (by simp))) ?_
    rintro e w4 ⟨rfl, rfl⟩
    rw [decide_eq_true hf]
    by_cases q1 : z < 0
    · go_wp2
      go_ret
      exact ⟨rfl, (unhide HK3).below (Nat.le_refl _) (by simp)⟩
    by_cases q2 : (p.length : Int) + 18 ≤ z
    · go_wp2
      go_ret
      exact ⟨rfl, (unhide HK3).below (Nat.le_refl _) (by simp)⟩
    by_cases q3 : y < 0
    · go_wp2
      go_ret
      exact ⟨rfl, (unhide HK3).below (Nat.le_refl _) (by simp)⟩
    by_cases q4 : 200000 < y
    · go_wp2
      go_ret
      exact ⟨rfl, (unhide HK3).below (Nat.le_refl _) (by simp)⟩
    obtain ⟨n, rfl⟩ : ∃ n : Nat, z = n := ⟨z.toNat, by omega⟩
    obtain ⟨k, rfl⟩ : ∃ k : Nat, y = k := ⟨y.toNat, by omega⟩
    have hmk := run_make_row' (P := Try.prog) 23 5 (.int .u8 0) 1 Try.underlying23 Try.info5 rfl .i64 .i64 k (by omega) (by omega)
    simp only [madeZeros] at hmk
    have q2' : (n : Int) < (p.length : Int) + 18 := by omega
    have HT3 := hide ((show Rd w4 (.slice a3 (frB pl p).length c3) (frB pl p) by rw [hfl]; exact unhide HN3).take0 (n := n) (by omega))
    have hzk : (zeros k).toArray = ((List.replicate k 0).map Go.Proofs.Ytnepbjnemgebiab.u8).toArray := by simp [zeros, u8]
    have HRZ := hide (by
      have h9 := rd_fresh (w := w4.alloc (.cells ((List.replicate k 0).map Go.Proofs.Ytnepbjnemgebiab.u8).toArray 5)) (g := w4.heap.size) (bs := List.replicate k 0) (heap_alloc_new _ _) (by simp) (by simp; omega)
      rw [List.length_replicate, ← hzk] at h9
      exact h9 : Rd (w4.alloc (.cells (zeros k).toArray 5)) (.slice (some ⟨w4.heap.size, 0, none⟩) k k) (List.replicate k 0))
    clear hzk
    have hq9 : n ≤ c3 := by omega
    go_wp2_with fail
    go_region_held3 (fun _ => True) (trivial) (first
      | (go_at_call 11; refine (join_any _ _ ((frB pl p).take n) (List.replicate k 0) _ (by exact (unhide HT3).old (((Kept.refl [] w4)).alloc _).drew (by simp)) (by exact unhide HRZ) (by simp; omega)).mono ?_; rintro e w5 ⟨v5, rfl, r5, k5, _⟩; have HR5 := hide r5; have HK5 := hide (((unhide HK3).alloc _).drew.trans k5 (by simp)); clear r5 k5))
    obtain ⟨q, hq⟩ : ∃ q, (frB pl p).take n ++ List.replicate k 0 = q := ⟨_, rfl⟩
    have HFN := hide (by rw [← hq]; exact firstF_torn pl p n k hpl hf.2 (unhide H).byte (by omega) : firstF q = none)
    have hql : q.length = n + k := by rw [← hq, List.length_append, List.length_take, List.length_replicate]; omega
    rw [hq] at HR5
    clear hq HRZ HT3
    have HNX := hide (nextF_torn (unhide HFN))
    have HQL := hide hql
    clear hql
    obtain ⟨K, hK⟩ : ∃ K, (if q.length = 0 then 0 else 2) = K := ⟨_, rfl⟩
    rw [hK] at HNX
    have hK1 : ((K : Int) != 1) = true := by rw [bne_iff_ne, ← hK]; split <;> simp
    have hK0 : ((K : Int) == 0) = ((q.length : Int) == 0) := by
      rw [← hK]
      by_cases h9 : q.length = 0
      · rw [if_pos h9, h9]
      · rw [if_neg h9]
        have : ((q.length : Int) == 0) = false := by rw [beq_eq_false_iff_ne]; omega
        rw [this]; rfl
    clear hK
    have HSC := hide (scanF_none (unhide HFN))
    obtain ⟨a5, m5, c5, rfl, hm5, _⟩ := id (unhide HR5)
    subst hm5
    go_wp2_with fail
    refine Calls.mono (next_any _ q 0 w5 (unhide HR5) (by decide)) ?_
    rintro e w6 ⟨v6, rfl, n6, k6⟩
    rw [unhide HNX] at n6 ⊢
    simp only at n6 ⊢
    have HN6 := hide n6.1
    have HK6 := hide ((unhide HK5).trans k6 (by simp))
    have HR6 := hide ((unhide HR5).old k6 (by simp))
    obtain ⟨a6, m6, c6, rfl, hm6, _⟩ := id n6.1
    clear n6 k6
    go_wp2_with fail
    refine Calls.mono (scan_any _ q _ ((unhide HR6).old ((Kept.refl [] w6).alloc _) (by simp)) (by have := unhide HQL; omega)) ?_
    rintro e w7 ⟨v7, rfl, r7, k7⟩
    rw [unhide HSC] at r7 ⊢
    have HK7 := hide (((unhide HK6).alloc _).trans k7 (by simp))
    have HC7 := hide (k7.heap (heap_alloc_new w6 (.cells #[.int .u64 ((0 : Nat) : Int), .slice a6 m6 c6] 33)) (by simp))
    have HN7 := hide ((unhide HN6).old (((Kept.refl [] w6).alloc _).trans k7 (by simp)) (by simp))
    obtain ⟨ao7, cap7, ts7, rfl, hts, _⟩ := id r7
    have ht0 : ts7 = [] := by
      have := congrArg List.length hts
      simp at this
      exact List.eq_nil_of_length_eq_zero (by omega)
    subst ht0
    clear r7 k7 hts
    have c0 : w7.cell? ⟨w6.heap.size, 0, none⟩ = some (.int .u64 0) := by rw [cell_of_row _ _ _ _ _ _ (unhide HC7)]; rfl
    have c1' : w7.cell? ⟨w6.heap.size, 1, none⟩ = some (.slice a6 m6 c6) := by rw [cell_of_row _ _ _ _ _ _ (unhide HC7)]; rfl
    go_wp2_with fail
    refine Calls.mono (empty_any 0 _ [] _ (unhide HN7)) ?_
    rintro e w8 ⟨rfl, k8⟩
    have HK8 := hide ((unhide HK7).trans k8 (by simp))
    clear k8
    rw [show (decide (0 = 0) && decide (([] : List Nat) = [])) = true by decide]
    go_wp2
    go_ret
    exact ⟨rfl, (unhide HK8).below (Nat.le_refl _) (by simp)⟩
  · have hE : encE p = 2 ∨ encE p = 3 := by
      unfold encE
      split
      · exact Or.inl rfl
      · split
        · exact Or.inr rfl
        · omega
    obtain ⟨E, hEE⟩ : ∃ E, encE p = E := ⟨_, rfl⟩
    rw [hEE] at hE ⊢
    have hE0 : ((E : Int) != 0) = true := by rw [bne_iff_ne]; omega
    clear hEE hE HN3
    go_wp2_with fail
    refine Calls.mono (fits_any _ p w3 ((unhide H).old (unhide HK3) (by simp))) ?_
    rintro e w4 ⟨rfl, rfl⟩
    rw [decide_eq_false hf]
    go_wp2_with fail
    refine Calls.mono (fits_any _ p w4 ((unhide H).old (unhide HK3) (by simp))) ?_
    rintro e w5 ⟨rfl, rfl⟩
    rw [decide_eq_false hf]
    go_wp2
    go_ret
    exact ⟨rfl, (unhide HK3).below (Nat.le_refl _) (by simp)⟩
end Go.Proofs.Ytnepbjnemgebiab
