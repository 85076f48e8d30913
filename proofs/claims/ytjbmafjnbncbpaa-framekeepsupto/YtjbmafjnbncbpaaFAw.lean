import Derived.Test.YtjbmafjnbncbpaaFNx
namespace Go.Proofs.Ytjbmafjnbncbpaa
open Go.RowKit Go.BigFrame
set_option linter.unusedVariables false
set_option linter.unusedSimpArgs false

set_option maxRecDepth 100000 in
set_option maxHeartbeats 1000000 in
theorem made_any (pl : Nat) (v : Value) (p : List Nat) (w : World) (h : Rd w v p) (hpl : pl < 18446744073709551616) :
    Calls Try.prog 7 #[.int .u64 pl, v] w fun e w' => ∃ v', e = .returned (.tuple #[v', .int .i64 (encE p)]) ∧ NewB w w' v' (encB pl p) ∧ Kept [] w w' := by
  have H := hide h
  obtain ⟨a1, n1, c1, rfl, hn1, _⟩ := id h
  subst hn1
  clear h
  go_enter Try.func7, Try.ntmps7
  go_wp2_with fail
  refine Calls.mono (encode_any pl _ p w (unhide H) hpl) ?_
  rintro e w1 ⟨v1, rfl, n1, k1⟩
  have HN := hide n1
  have HK := hide k1
  clear n1 k1
  go_wp2
  go_ret2
  exact ⟨_, rfl, unhide HN, unhide HK⟩

set_option maxRecDepth 100000 in
set_option maxHeartbeats 1000000 in
theorem fsame_any (x y : Nat) (u v : Value) (p q : List Nat) (w : World) (hu : Rd w u p) (hv : Rd w v q) :
    Calls Try.prog 15 #[.agg #[.int .u64 x, u], .int .u64 y, v] w fun e w' => e = .returned (.bool (decide (x = y) && decide (p = q))) ∧ Kept [] w w' := by
  have HU := hide hu
  have HV := hide hv
  obtain ⟨a1, n1, c1, rfl, hn1, _⟩ := id hu
  obtain ⟨a2, n2, c2, rfl, hn2, _⟩ := id hv
  clear hu hv
  by_cases hxy : x = y
  · subst hxy
    rw [decide_eq_true rfl, Bool.true_and]
    go_enter Try.func15, Try.ntmps15
    go_wp2_with fail
    refine Calls.mono (same_any _ _ p q _ ((unhide HU).old ((Kept.refl [] w).alloc _) (by simp)) ((unhide HV).old ((Kept.refl [] w).alloc _) (by simp))) ?_
    rintro e w1 ⟨rfl, m, rfl⟩
    go_wp2
    go_ret
    exact ⟨rfl, ((Kept.refl [] w).alloc _).drewN _⟩
  · have hxy' : ((x : Int) == y) = false := by rw [beq_eq_false_iff_ne]; omega
    rw [decide_eq_false hxy, Bool.false_and]
    clear hxy
    go_enter Try.func15, Try.ntmps15
    go_wp2
    go_ret
    exact ⟨rfl, (Kept.refl [] w).alloc _⟩

theorem nextF_frB (pl : Nat) (pay t : List Nat) (hpl : pl < 18446744073709551616) (h1 : 1 ≤ pay.length) (hl : pay.length ≤ 65535) (hb : ∀ x ∈ pay, x < 256) : nextF (frB pl pay ++ t) 0 = ⟨pl, pay, 18 + (pay.length : Int), 1⟩ := by
  have h := firstF_some pl pay t hpl h1 hl hb
  have hlen : (frB pl pay ++ t).length = pay.length + 18 + t.length := by rw [List.length_append, frB_len]
  unfold nextF
  rw [if_neg (by rw [hlen]; omega), if_neg (by rw [hlen]; omega), Int.toNat_zero, List.drop_zero, h]
  simp

theorem next79 : nextF (frB 7 [9]) 0 = ⟨7, [9], 19, 1⟩ := by
  have := nextF_frB 7 [9] [] (by decide) (by decide) (by decide) (by decide)
  rw [List.append_nil] at this
  exact this

set_option maxRecDepth 100000 in
set_option maxHeartbeats 1000000 in
theorem fawake_any (w : World) : Calls Try.prog 4 #[] w fun e w' => e = .returned (.bool true) ∧ Kept [] w w' := by
  go_enter Try.func4, Try.ntmps4
  go_wp2_with fail
  refine Calls.mono (made_any 7 _ [9] _ (rd_lit (heap_alloc_new _ _) rfl (by decide) 1 rfl (by decide)) (by decide)) ?_
  rintro e w1 ⟨v1, rfl, n1, k1⟩
  rw [show encE [9] = 0 by decide]
  rw [show encB 7 [9] = frB 7 [9] from rfl] at n1
  have HK1 := hide (((Kept.refl [] w).alloc _).trans k1 (by simp))
  obtain ⟨g, rfl, hg, hc⟩ : ∃ g, v1 = .slice (some ⟨g, 0, none⟩) 19 19 ∧ w.heap.size ≤ g ∧ w1.heap[g]? = some (.cells ((frB 7 [9]).map u8).toArray 5 (0, 0)) := by
    rcases n1.2 with ⟨h, _⟩ | ⟨g, h1, h2, h3⟩
    · simp [frB] at h
    · exact ⟨g, h1, by simp at h2; omega, h3⟩
  have HN1 := hide n1.1
  have c0 : w1.cell? ⟨g, 0, none⟩ = some (.int .u8 245) := by rw [cell_of_row _ _ _ _ _ _ hc]; rfl
  have c4 : w1.cell? ⟨g, 4, none⟩ = some (.int .u8 1) := by rw [cell_of_row _ _ _ _ _ _ hc]; rfl
  have c12 : w1.cell? ⟨g, 12, none⟩ = some (.int .u8 7) := by rw [cell_of_row _ _ _ _ _ _ hc]; rfl
  have c17 : w1.cell? ⟨g, 17, none⟩ = some (.int .u8 9) := by rw [cell_of_row _ _ _ _ _ _ hc]; rfl
  have c18 : w1.cell? ⟨g, 18, none⟩ = some (.int .u8 95) := by rw [cell_of_row _ _ _ _ _ _ hc]; rfl
  clear k1 n1 hc
  go_wp2_with fail
  refine Calls.mono (next_any _ (frB 7 [9]) 0 w1 (unhide HN1) (by decide)) ?_
  rintro e w2 ⟨v2, rfl, n2, k2⟩
  rw [next79] at n2 ⊢
  have HN2 := hide n2.1
  have HK2 := hide ((unhide HK1).trans k2 (by simp))
  obtain ⟨a2, m2, c2, rfl, hm2, _⟩ := id n2.1
  clear k2 n2 c0 c4 c12 c17 c18
  simp only
  go_wp2_with fail
  refine Calls.mono (fsame_any 7 7 _ _ [9] [9] _ ((unhide HN2).old (((Kept.refl [] w2).alloc _).alloc _) (by simp)) (rd_lit (heap_alloc2_new _ _ _) rfl (by decide) 1 rfl (by decide))) ?_
  rintro e w3 ⟨rfl, k3⟩
  have HK3 := hide ((((unhide HK2).alloc _).alloc _).trans k3 (by simp))
  clear k3
  rw [show (decide (7 = 7) && decide ([9] = [9])) = true by decide]
  go_wp2
  go_ret
  exact ⟨rfl, unhide HK3⟩
end Go.Proofs.Ytjbmafjnbncbpaa
