import Derived.Test.YtkcanelboloihaaRefTake2
namespace Go.Proofs.Ytkcanelboloihaa
open Go.RowKit
set_option linter.unusedVariables false
set_option linter.unusedSimpArgs false
attribute [local go_sem ↓] Go.wp_at_zero Go.wp_at_succ

set_option maxRecDepth 100000 in
set_option maxHeartbeats 4000000 in
theorem takeBlob_any (ao : Option Addr) (c : Nat) (p : List Nat) (i e : Nat) (n : Int) (w : World) (h : Rd w (.slice ao p.length c) p) (hi : i ≤ p.length) (hn : -9223372036854775808 ≤ n ∧ n ≤ 9223372036854775807) :
    Calls Try.prog 112 #[rrV (.slice ao p.length c) i e, .int .i64 n] w fun r w' => ∃ rv, r = .returned (.tuple #[rv, rrV (.slice ao p.length c) (rBlob p i e n).2.1 (rBlob p i e n).2.2]) ∧ Rd w' rv (rBlob p i e n).1 ∧ Kept [] w w' ∧ ∀ x ∈ blk rv, w.heap.size ≤ x := by
  have hl := h.len
  have HR := hide h
  by_cases he : e = 0
  · subst he
    have HVdef := hide (by simp only [rBlob, ne_eq, not_true_eq_false, if_false] : rBlob p i 0 n = if n < 0 then ([], i, 1) else if (fuv (p.drop i) 0 0).2 = 0 then ([], i, 3) else if n < (fuv (p.drop i) 0 0).1 then ([], i, 2) else if (p.drop i).length - (fuv (p.drop i) 0 0).2 < (fuv (p.drop i) 0 0).1 then ([], i, 3) else (((p.drop i).drop (fuv (p.drop i) 0 0).2).take (fuv (p.drop i) 0 0).1, i + ((fuv (p.drop i) 0 0).2 + (fuv (p.drop i) 0 0).1), 0))
    have HU0 := hide (by simp [rUvar] : rUvar p i 0 = if (fuv (p.drop i) 0 0).2 = 0 then (0, i, 3) else ((fuv (p.drop i) 0 0).1, i + (fuv (p.drop i) 0 0).2, 0))
    have hfl := fuv_le (p.drop i) 0 0
    have hfx := fuv_lt (p.drop i) 0 0 (by decide) (by decide)
    obtain ⟨x, s, hx⟩ : ∃ x s, fuv (p.drop i) 0 0 = (x, s) := ⟨_, _, rfl⟩
    rw [hx] at HVdef HU0 hfl hfx
    simp only [Nat.zero_add, List.length_drop] at HVdef HU0 hfl hfx
    have hx' : (x : Int) ≤ 18446744073709551615 := by omega
    clear hx h
    by_cases hn0 : n < 0
    · have HV := hide (by rw [unhide HVdef, if_pos hn0] : rBlob p i 0 n = ([], i, 1))
      go_enter Try.func112, Try.ntmps112
      go_wp2_with fail
      refine (fault_any _ p.length c i 0 1 _).mono ?_
      rintro r w1 ⟨rfl, k1⟩
      obtain ⟨⟨c0, c1, c2⟩, f0, f1, f2⟩ := three (k1.heap (heap_alloc2_new w _ _) (by simp))
      have HK1 := hide ((((Kept.refl [] w).alloc _).alloc _).trans k1 (by simp))
      clear k1
      go_wp2
      refine bodyPost_ret (v := .tuple #[.slice none 0 0, rrV (.slice ao p.length c) i 1]) (by simp [results, Try.results112, go_sem, c0, c1, c2]) rfl ?_
      rw [unhide HV]
      exact ⟨_, rfl, Rd.nil _, (((unhide HK1).setCell (by simp) _).setCell (by simp) _).setCell (by simp) _, by simp [blk]⟩
    · obtain ⟨mo, rfl⟩ : ∃ mo : Nat, n = mo := ⟨n.toNat, by omega⟩
      have HV2 := hide (by rw [unhide HVdef, if_neg hn0] : rBlob p i 0 mo = if s = 0 then ([], i, 3) else if (mo : Int) < x then ([], i, 2) else if p.length - i - s < x then ([], i, 3) else (((p.drop i).drop s).take x, i + (s + x), 0))
      have hmo : (0 : Int) ≤ mo := by omega
      have hmo2 : (mo : Int) ≤ 9223372036854775807 := hn.2
      clear HVdef
      by_cases hs0 : s = 0
      · have HV := hide (by rw [unhide HV2, if_pos hs0] : rBlob p i 0 mo = ([], i, 3))
        have HU := hide (by rw [unhide HU0, if_pos hs0] : rUvar p i 0 = (0, i, 3))
        go_enter Try.func112, Try.ntmps112
        go_wp2_with fail
        refine (takeUvar_any ao c p i 0 _ (by exact (unhide HR).old (((Kept.refl [] w).alloc _).alloc _) (by simp)) hi).mono ?_
        rintro r w1 ⟨rfl, k1⟩
        rw [unhide HU]
        simp only
        obtain ⟨⟨b0, b1, b2⟩, g0, g1, g2⟩ := three (k1.heap (heap_alloc2_old w _ _) (by simp))
        obtain ⟨⟨c0, c1, c2⟩, f0, f1, f2⟩ := three (k1.heap (heap_alloc2_new w _ _) (by simp))
        have HK1 := hide ((((Kept.refl [] w).alloc _).alloc _).trans k1 (by simp))
        have hB0 := hide (k1.heap (heap_alloc2_old w _ _) (by simp))
        have hB1 := hide (k1.heap (heap_alloc2_new w _ _) (by simp))
        have hsz1 : w.heap.size + 1 < w1.heap.size := by have := k1.size; simp at this; omega
        have hsz0 : w.heap.size < w1.heap.size := by omega
        clear k1
        go_wp2_with fail
        refine (fault_any _ p.length c i 0 3 _).mono ?_
        rintro r w2 ⟨rfl, k2⟩
        obtain ⟨⟨d0, d1, d2⟩, e0, e1, e2⟩ := three (k2.heap (Below.heap_alloc w1 _ _ hsz1 ▸ unhide hB1 : (w1.alloc _).heap[w.heap.size + 1]? = _) (by simp))
        have HK2 := hide (((unhide HK1).alloc _).trans k2 (by simp))
        clear k2
        go_wp2
        refine bodyPost_ret (v := .tuple #[.slice none 0 0, rrV (.slice ao p.length c) i 3]) (by simp [results, Try.results112, go_sem, d0, d1, d2]) rfl ?_
        rw [unhide HV]
        exact ⟨_, rfl, Rd.nil _, (((unhide HK2).setCell (by simp) _).setCell (by simp) _).setCell (by simp) _, by simp [blk]⟩
      · have HU := hide (by rw [unhide HU0, if_neg hs0] : rUvar p i 0 = (x, i + s, 0))
        by_cases hm : (mo : Int) < x
        · have HV := hide (by rw [unhide HV2, if_neg hs0, if_pos hm] : rBlob p i 0 mo = ([], i, 2))
          go_enter Try.func112, Try.ntmps112
          go_wp2_with fail
          refine (takeUvar_any ao c p i 0 _ (by exact (unhide HR).old (((Kept.refl [] w).alloc _).alloc _) (by simp)) hi).mono ?_
          rintro r w1 ⟨rfl, k1⟩
          rw [unhide HU]
          simp only
          obtain ⟨⟨b0, b1, b2⟩, g0, g1, g2⟩ := three (k1.heap (heap_alloc2_old w _ _) (by simp))
          obtain ⟨⟨c0, c1, c2⟩, f0, f1, f2⟩ := three (k1.heap (heap_alloc2_new w _ _) (by simp))
          have HK1 := hide ((((Kept.refl [] w).alloc _).alloc _).trans k1 (by simp))
          have hB0 := hide (k1.heap (heap_alloc2_old w _ _) (by simp))
          have hB1 := hide (k1.heap (heap_alloc2_new w _ _) (by simp))
          have hsz1 : w.heap.size + 1 < w1.heap.size := by have := k1.size; simp at this; omega
          have hsz0 : w.heap.size < w1.heap.size := by omega
          clear k1
          go_wp2_with fail
          refine (fault_any _ p.length c i 0 2 _).mono ?_
          rintro r w2 ⟨rfl, k2⟩
          obtain ⟨⟨d0, d1, d2⟩, e0, e1, e2⟩ := three (k2.heap (Below.heap_alloc w1 _ _ hsz1 ▸ unhide hB1 : (w1.alloc _).heap[w.heap.size + 1]? = _) (by simp))
          have HK2 := hide (((unhide HK1).alloc _).trans k2 (by simp))
          clear k2
          go_wp2
          refine bodyPost_ret (v := .tuple #[.slice none 0 0, rrV (.slice ao p.length c) i 2]) (by simp [results, Try.results112, go_sem, d0, d1, d2]) rfl ?_
          rw [unhide HV]
          exact ⟨_, rfl, Rd.nil _, (((unhide HK2).setCell (by simp) _).setCell (by simp) _).setCell (by simp) _, by simp [blk]⟩
        · by_cases hlt : p.length - i - s < x
          · have HV := hide (by rw [unhide HV2, if_neg hs0, if_neg hm, if_pos hlt] : rBlob p i 0 mo = ([], i, 3))
            have hlt' : (p.length : Int) - ((i : Int) + s) < x := by omega
            go_enter Try.func112, Try.ntmps112
            go_wp2_with fail
            refine (takeUvar_any ao c p i 0 _ (by exact (unhide HR).old (((Kept.refl [] w).alloc _).alloc _) (by simp)) hi).mono ?_
            rintro r w1 ⟨rfl, k1⟩
            rw [unhide HU]
            simp only
            obtain ⟨⟨b0, b1, b2⟩, g0, g1, g2⟩ := three (k1.heap (heap_alloc2_old w _ _) (by simp))
            obtain ⟨⟨c0, c1, c2⟩, f0, f1, f2⟩ := three (k1.heap (heap_alloc2_new w _ _) (by simp))
            have HK1 := hide ((((Kept.refl [] w).alloc _).alloc _).trans k1 (by simp))
            have hB0 := hide (k1.heap (heap_alloc2_old w _ _) (by simp))
            have hB1 := hide (k1.heap (heap_alloc2_new w _ _) (by simp))
            have hsz1 : w.heap.size + 1 < w1.heap.size := by have := k1.size; simp at this; omega
            have hsz0 : w.heap.size < w1.heap.size := by omega
            clear k1
            go_wp2_with fail
            refine (fault_any _ p.length c i 0 3 _).mono ?_
            rintro r w2 ⟨rfl, k2⟩
            obtain ⟨⟨d0, d1, d2⟩, e0, e1, e2⟩ := three (k2.heap (Below.heap_alloc w1 _ _ hsz1 ▸ unhide hB1 : (w1.alloc _).heap[w.heap.size + 1]? = _) (by simp))
            have HK2 := hide (((unhide HK1).alloc _).trans k2 (by simp))
            clear k2
            go_wp2
            refine bodyPost_ret (v := .tuple #[.slice none 0 0, rrV (.slice ao p.length c) i 3]) (by simp [results, Try.results112, go_sem, d0, d1, d2]) rfl ?_
            rw [unhide HV]
            exact ⟨_, rfl, Rd.nil _, (((unhide HK2).setCell (by simp) _).setCell (by simp) _).setCell (by simp) _, by simp [blk]⟩
          · have HV := hide (by rw [unhide HV2, if_neg hs0, if_neg hm, if_neg hlt] : rBlob p i 0 mo = (((p.drop i).drop s).take x, i + (s + x), 0))
            have hlt' : ¬ (p.length : Int) - ((i : Int) + s) < x := by omega
            have hx47 : (x : Int) ≤ 140737488355328 := by omega
            have HRR := hide (by have h2 : ¬ (p.length : Int) - ((i + s : Nat) : Int) < (x : Int) := (by omega); simp only [rRaw, ne_eq, not_true_eq_false, if_false]; rw [if_neg (by omega), if_neg h2]; simp : rRaw p (i + s) 0 x = ((p.drop (i + s)).take x, i + s + x, 0))
            go_enter Try.func112, Try.ntmps112
            go_wp2_with fail
            refine (takeUvar_any ao c p i 0 _ (by exact (unhide HR).old (((Kept.refl [] w).alloc _).alloc _) (by simp)) hi).mono ?_
            rintro r w1 ⟨rfl, k1⟩
            rw [unhide HU]
            simp only
            obtain ⟨⟨b0, b1, b2⟩, g0, g1, g2⟩ := three (k1.heap (heap_alloc2_old w _ _) (by simp))
            obtain ⟨⟨c0, c1, c2⟩, f0, f1, f2⟩ := three (k1.heap (heap_alloc2_new w _ _) (by simp))
            have HK1 := hide ((((Kept.refl [] w).alloc _).alloc _).trans k1 (by simp))
            have hB0 := hide (k1.heap (heap_alloc2_old w _ _) (by simp))
            have hB1 := hide (k1.heap (heap_alloc2_new w _ _) (by simp))
            have hsz1 : w.heap.size + 1 < w1.heap.size := by have := k1.size; simp at this; omega
            have hsz0 : w.heap.size < w1.heap.size := by omega
            clear k1
            go_wp2_with fail
            rw [show ((i : Int) + s) = ((i + s : Nat) : Int) from by omega]
            refine (takeRaw_any ao c p (i + s) 0 (x : Int) _ (by exact ((unhide HR).old (unhide HK1) (by simp)).old ((Kept.refl [] w1).alloc _) (by simp)) (by omega) (by omega)).mono ?_
            rintro r w2 ⟨rv, rfl, hr2, k2, hb2⟩
            rw [unhide HRR] at hr2 ⊢
            simp only at hr2
            obtain ⟨⟨d0, d1, d2⟩, e0, e1, e2⟩ := three (k2.heap (Below.heap_alloc w1 _ _ hsz1 ▸ unhide hB1 : (w1.alloc _).heap[w.heap.size + 1]? = _) (by simp))
            have HK2 := hide (((unhide HK1).alloc _).trans k2 (by simp))
            have HRv := hide hr2
            have HBv := hide (fun y (hy : y ∈ blk rv) => (by have := hb2 y hy; simp at this; omega : w1.heap.size < y))
            obtain ⟨ao5, n5, c5, hrv⟩ : ∃ ao n c, rv = .slice ao n c := by obtain ⟨ao, n, c, e, _⟩ := hr2; exact ⟨ao, n, c, e⟩
            subst hrv
            clear hr2 k2 hb2
            go_wp2
            refine bodyPost_ret (v := .tuple #[.slice ao5 n5 c5, rrV (.slice ao p.length c) ((i : Int) + s + x) 0]) (by simp [results, Try.results112, go_sem, d0, d1, d2]) rfl ?_
            rw [unhide HV]
            refine ⟨.slice ao5 n5 c5, by simp [Int.add_assoc], ?_, (((unhide HK2).setCell (by simp) _).setCell (by simp) _).setCell (by simp) _, fun y hy => by have := unhide HBv y hy; omega⟩
            rw [List.drop_drop]
            exact (unhide HRv).kept (L := [w.heap.size + 1]) (by repeat (first | exact Kept.refl _ _ | apply Kept.drew | apply Kept.alloc | (refine Kept.setCell ?_ (by simp) _))) (by intro y hy; have := unhide HBv y hy; simp; omega)
  · have he' : ((e : Int) != 0) = true := by rw [bne_iff_ne]; omega
    have HV := hide (by simp [rBlob, he] : rBlob p i e n = ([], i, e))
    clear he h
    go_enter Try.func112, Try.ntmps112
    go_wp2_with fail
    go_region
    all_goals go_wp2
    refine bodyPost_ret (v := .tuple #[.slice none 0 0, rrV (.slice ao p.length c) i e]) (by simp [results, Try.results112, go_sem]) rfl ?_
    rw [unhide HV]
    exact ⟨_, rfl, Rd.nil _, (by repeat (first | exact Kept.refl _ _ | apply Kept.drew | apply Kept.alloc | (refine Kept.setCell ?_ (by simp) _))), by simp [blk]⟩
end Go.Proofs.Ytkcanelboloihaa
