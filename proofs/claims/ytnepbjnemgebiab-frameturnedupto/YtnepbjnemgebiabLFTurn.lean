import Derived.Test.YtnepbjnemgebiabFFits
import Derived.Deep.RegionHeld3
namespace Go.Proofs.Ytnepbjnemgebiab
open Go.RowKit Go.BigFrame
set_option linter.unusedVariables false
set_option linter.unusedSimpArgs false

theorem nextF_none {p : List Nat} (h0 : 0 < p.length) (h : firstF p = none) : nextF p 0 = ⟨0, [], 0, 2⟩ := by
  unfold nextF
  rw [if_neg (by omega), if_neg (by omega), Int.toNat_zero, List.drop_zero, h]

set_option maxRecDepth 100000 in
set_option maxHeartbeats 2000000 in
theorem frameTurned_walk (pl : Nat) (v : Value) (p : List Nat) (z : Int) (by_ : Nat) (w : World) (hpl : pl < 18446744073709551616) (h : Rd w v p) (hl : p.length ≤ 1048576) (hz : -9223372036854775808 ≤ z ∧ z ≤ 9223372036854775807) (hby : by_ < 256) :
    Calls Try.prog 4 #[.agg #[.int .u64 pl, v], .int .i64 z, .int .u8 by_] w fun e w' => e = .returned (.bool true) ∧ Below w.heap.size w w' := by
  have H := hide h
  obtain ⟨a1, n1, c1, rfl, hn1, _⟩ := id h
  subst hn1
  clear h
  go_enter Try.func4, Try.ntmps4
  have HZ0 := hide (heap_alloc_new w (.cells #[.int .u64 (pl : Int), .slice a1 p.length c1] 25))
  have HK0 := hide ((Kept.refl [] w).alloc (.cells #[.int .u64 (pl : Int), .slice a1 p.length c1] 25))
  go_wp2_with fail
  refine Calls.mono (fawake_any _) ?_
  rintro e w1 ⟨rfl, k1⟩
  have HZ1 := hide (k1.heap (unhide HZ0) (by simp))
  have HK1 := hide ((unhide HK0).trans k1 (by simp))
  clear k1
  have d0 : w1.cell? ⟨w.heap.size, 0, none⟩ = some (.int .u64 pl) := by rw [cell_of_row _ _ _ _ _ _ (unhide HZ1)]; rfl
  have d1 : w1.cell? ⟨w.heap.size, 1, none⟩ = some (.slice a1 p.length c1) := by rw [cell_of_row _ _ _ _ _ _ (unhide HZ1)]; rfl
  go_wp2_with fail
  have HS01 := hide (unhide HK1).size
  have HKd := hide (unhide HK1).drew
  have HZd := hide (show w1.drew.heap[w.heap.size]? = _ from unhide HZ1)
  have HD0 := hide (show w1.drew.cell? ⟨w.heap.size, 0, none⟩ = _ from d0)
  have HD1 := hide (show w1.drew.cell? ⟨w.heap.size, 1, none⟩ = _ from d1)
  go_region_held3 (fun w' => w'.cell? ⟨w.heap.size, 0, none⟩ = some (.int .u64 pl) ∧ w'.cell? ⟨w.heap.size, 1, none⟩ = some (.slice a1 p.length c1)) (go_keep) (first
    | (go_at_call 9; refine (twin_any _ p _ (by exact (unhide H).old (unhide HKd) (by simp))).mono ?_; rintro e w2 ⟨rfl, k2, g2⟩; have e0 := k2.cell (unhide HD0) (by simp); have e1 := k2.cell (unhide HD1) (by simp); have HZ2 := hide (k2.heap (unhide HZd) (by simp)); have HK2 := hide ((unhide HKd).trans k2 (by simp)); have HR2 := hide (rd_fresh g2 (unhide H).byte (unhide H).len); have hsz2 : w1.heap.size ≤ w2.heap.size := k2.size; clear k2 g2)
    | (go_at_call 8; refine (made_any pl _ p _ (by exact unhide HR2) hpl).mono ?_; rintro e w3 ⟨v3, rfl, n3, k3⟩; have e0' := k3.cell e0 (by simp); have e1' := k3.cell e1 (by simp); have HZ3 := hide (k3.heap (unhide HZ2) (by simp)); have HK3 := hide ((unhide HK2).trans k3 (by simp)); have HN3 := hide n3; have HS12 := hide (by first | exact hsz2 : w1.heap.size ≤ w2.heap.size); clear k3 n3))
  clear HZ1 HK1 HZ2 HR2
  have d0 : w3.cell? ⟨w.heap.size, 0, none⟩ = some (.int .u64 pl) := by rw [cell_of_row _ _ _ _ _ _ (unhide HZ3)]; rfl
  have d1 : w3.cell? ⟨w.heap.size, 1, none⟩ = some (.slice a1 p.length c1) := by rw [cell_of_row _ _ _ _ _ _ (unhide HZ3)]; rfl
  by_cases hf : 0 < p.length ∧ p.length ≤ 65535
  · rw [encE_good (by omega) hf.2]
    rw [encB_good (by omega) hf.2] at HN3
    obtain ⟨g, rfl, hg, hc⟩ : ∃ g, v3 = .slice (some ⟨g, 0, none⟩) (p.length + 18) (p.length + 18) ∧ w1.heap.size ≤ g ∧ w3.heap[g]? = some (.cells ((frB pl p).map u8).toArray 5 (0, 0)) := by
      rcases (unhide HN3).2 with ⟨h, _⟩ | ⟨g, h1, h2, h3⟩
      · simp [frB] at h
      · exact ⟨g, by rw [h1, frB_len], by have := (unhide HS12); omega, h3⟩
    have HG := hide hc
    have hfl := frB_len pl p
    have HFB := hide (frB_byte (pl := pl) (unhide H).byte)
    clear hc HN3
    go_wp2_with fail
    refine Calls.mono (fits_any _ p w3 ((unhide H).old (unhide HK3) (by simp))) ?_
    rintro e w4 ⟨rfl, rfl⟩
    rw [decide_eq_true hf]
    by_cases q1 : z < 0
    · go_wp2
      go_ret
      exact ⟨rfl, (unhide HK3).below (Nat.le_refl _) (by simp)⟩
    have q1' : ¬ z < 0 := q1
    by_cases q2 : (p.length : Int) + 18 ≤ z
    · go_wp2
      go_ret
      exact ⟨rfl, (unhide HK3).below (Nat.le_refl _) (by simp)⟩
    obtain ⟨n, rfl⟩ : ∃ n : Nat, z = n := ⟨z.toNat, by omega⟩
    by_cases q3 : 1 ≤ n ∧ n ≤ 4
    · have q3' : (1 : Int) ≤ n := by omega
      have q3'' : (n : Int) ≤ 4 := by omega
      go_wp2
      go_ret
      exact ⟨rfl, (unhide HK3).below (Nat.le_refl _) (by simp)⟩
    by_cases q4 : by_ = 0
    · subst q4
      by_cases q5 : 1 ≤ n
      · have q5' : (1 : Int) ≤ n := by omega
        have q5'' : ¬ (n : Int) ≤ 4 := by omega
        go_wp2
        go_ret
        exact ⟨rfl, (unhide HK3).below (Nat.le_refl _) (by simp)⟩
      · have q5' : ¬ (1 : Int) ≤ n := by omega
        go_wp2
        go_ret
        exact ⟨rfl, (unhide HK3).below (Nat.le_refl _) (by simp)⟩
    have q4' : ((by_ : Int) == 0) = false := by rw [beq_eq_false_iff_ne]; omega
    have hn : n < p.length + 18 := by omega
    obtain ⟨x, hx⟩ : ∃ x, (frB pl p).getD n 0 = x := ⟨_, rfl⟩
    have hxb : x < 256 := by rw [← hx, List.getD_eq_getElem?_getD, List.getElem?_eq_getElem (by omega)]; exact unhide HFB _ (List.getElem_mem _)
    have cn : w4.cell? ⟨g, n, none⟩ = some (.int .u8 x) := by rw [cell_of_row _ _ _ _ _ _ (unhide HG), ← hx]; simp [List.getD_eq_getElem?_getD, hfl, hn]
    have fn : w4.frozen? ⟨g, n, none⟩ = false := frozen_of_row _ _ _ _ _ (unhide HG)
    have hbx : bits .xor .u8 (x : Int) (by_ : Int) = ((x ^^^ by_ : Nat) : Int) := u8_xor_nat x by_ hxb hby
    obtain ⟨y, hy⟩ : ∃ y, x ^^^ by_ = y := ⟨_, rfl⟩
    have hyb : y < 256 := by rw [← hy]; exact Nat.xor_lt_two_pow (n := 8) hxb hby
    have hne : y ≠ (frB pl p).getD n 0 := by
      rw [hx, ← hy]
      intro h9
      have h8 := xself x by_
      rw [h9, Nat.xor_self] at h8
      omega
    rw [hy] at hbx
    have HNF := hide (firstF_turned pl p n y hpl hf.2 (unhide H).byte hn (by omega) hyb hne)
    have HG2 := hide (show (w4.setCell ⟨g, n, none⟩ (.int .u8 y)).heap[g]? = some (.cells (((frB pl p).set n y).map u8).toArray 5 (0, 0)) by
      rw [heap_setCell_same w4 g n _ 5 _ (unhide HG)]
      congr 2
      rw [List.map_set]; simp)
    have HR4 := hide (rd_fresh (unhide HG2) (by intro t ht; rcases List.mem_or_eq_of_mem_set ht with h | h; exact unhide HFB t h; omega) (by rw [List.length_set]; omega))
    rw [List.length_set, hfl] at HR4
    have HK4 := hide ((unhide HK3).setCell (p := ⟨g, n, none⟩) (Or.inr (by have := unhide HS12; have := unhide HS01; simp only; omega)) (.int .u8 y))
    clear hx hy
    by_cases q5 : 1 ≤ n
    · have q5' : (1 : Int) ≤ n := by omega
      have q5'' : ¬ (n : Int) ≤ 4 := by omega
      go_wp2_with fail
      refine Calls.mono (next_any _ ((frB pl p).set n y) 0 _ (unhide HR4) (by decide)) ?_
      rintro e w5 ⟨v5, rfl, n5, k5⟩
      rw [nextF_none (by rw [List.length_set]; omega) (unhide HNF)] at n5 ⊢
      simp only at n5 ⊢
      have HN5 := hide n5.1
      have HK5 := hide ((unhide HK4).trans k5 (by simp))
      obtain ⟨a5, m5, c5, rfl, hm5, _⟩ := id n5.1
      clear n5 k5 cn fn d0 d1
      go_wp2_with fail
      refine Calls.mono (empty_any 0 _ [] _ ((unhide HN5).old ((Kept.refl [] w5).alloc _) (by simp))) ?_
      rintro e w6 ⟨rfl, k6⟩
      have HK6 := hide (((unhide HK5).alloc _).trans k6 (by simp))
      clear k6
      rw [show (decide (0 = 0) && decide (([] : List Nat) = [])) = true by decide]
      go_wp2
      go_ret
      exact ⟨rfl, (unhide HK6).below (Nat.le_refl _) (by simp)⟩
    · have q5' : ¬ (1 : Int) ≤ n := by omega
      go_wp2_with fail
      refine Calls.mono (next_any _ ((frB pl p).set n y) 0 _ (unhide HR4) (by decide)) ?_
      rintro e w5 ⟨v5, rfl, n5, k5⟩
      rw [nextF_none (by rw [List.length_set]; omega) (unhide HNF)] at n5 ⊢
      simp only at n5 ⊢
      have HN5 := hide n5.1
      have HK5 := hide ((unhide HK4).trans k5 (by simp))
      obtain ⟨a5, m5, c5, rfl, hm5, _⟩ := id n5.1
      clear n5 k5 cn fn d0 d1
      go_wp2_with fail
      refine Calls.mono (empty_any 0 _ [] _ ((unhide HN5).old ((Kept.refl [] w5).alloc _) (by simp))) ?_
      rintro e w6 ⟨rfl, k6⟩
      have HK6 := hide (((unhide HK5).alloc _).trans k6 (by simp))
      clear k6
      rw [show (decide (0 = 0) && decide (([] : List Nat) = [])) = true by decide]
      go_wp2
      go_ret
      exact ⟨rfl, (unhide HK6).below (Nat.le_refl _) (by simp)⟩
  · have hE : encE p = 2 ∨ encE p = 3 := by
      unfold encE
      split
      · exact Or.inl rfl
      · split
        · exact Or.inr rfl
        · omega
    obtain ⟨E, hEE⟩ : ∃ E, encE p = E := ⟨_, rfl⟩
    rw [hEE] at hE ⊢
    have hE0 : ((E : Int) != 0) = true := by rw [bne_iff_ne]; omega
    clear hEE hE HN3
    go_wp2_with fail
    refine Calls.mono (fits_any _ p w3 ((unhide H).old (unhide HK3) (by simp))) ?_
    rintro e w4 ⟨rfl, rfl⟩
    rw [decide_eq_false hf]
    go_wp2_with fail
    refine Calls.mono (fits_any _ p w4 ((unhide H).old (unhide HK3) (by simp))) ?_
    rintro e w5 ⟨rfl, rfl⟩
    rw [decide_eq_false hf]
    go_wp2
    go_ret
    exact ⟨rfl, (unhide HK3).below (Nat.le_refl _) (by simp)⟩
end Go.Proofs.Ytnepbjnemgebiab
