import Derived.Test.YtkcanelboloihaaRefTake
namespace Go.Proofs.Ytkcanelboloihaa
open Go.RowKit
set_option linter.unusedVariables false
set_option linter.unusedSimpArgs false
attribute [local go_sem ↓] Go.wp_at_zero Go.wp_at_succ

set_option maxRecDepth 100000 in
set_option maxHeartbeats 4000000 in
theorem takeRaw_any (ao : Option Addr) (c : Nat) (p : List Nat) (i e : Nat) (n : Int) (w : World) (h : Rd w (.slice ao p.length c) p) (hi : i ≤ p.length) (hn : -9223372036854775808 ≤ n ∧ n ≤ 9223372036854775807) :
    Calls Try.prog 125 #[rrV (.slice ao p.length c) i e, .int .i64 n] w fun r w' => ∃ rv, r = .returned (.tuple #[rv, rrV (.slice ao p.length c) (rRaw p i e n).2.1 (rRaw p i e n).2.2]) ∧ Rd w' rv (rRaw p i e n).1 ∧ Kept [] w w' ∧ ∀ x ∈ blk rv, w.heap.size ≤ x := by
  have hl := h.len
  by_cases he : e = 0
  · subst he
    by_cases hn0 : n < 0
    · have HV := hide (by simp [rRaw, hn0] : rRaw p i 0 n = ([], i, 1))
      clear h
      go_enter Try.func125, Try.ntmps125
      go_wp2_with fail
      refine (fault_any _ p.length c i 0 1 _).mono ?_
      rintro r w1 ⟨rfl, k1⟩
      obtain ⟨⟨c0, c1, c2⟩, f0, f1, f2⟩ := three (k1.heap (heap_alloc2_new w _ _) (by simp))
      have HK1 := hide ((((Kept.refl [] w).alloc _).alloc _).trans k1 (by simp))
      clear k1
      go_wp2
      refine bodyPost_ret (v := .tuple #[.slice none 0 0, rrV (.slice ao p.length c) i 1]) (by simp [results, Try.results125, go_sem, c0, c1, c2]) rfl ?_
      rw [unhide HV]
      exact ⟨_, rfl, Rd.nil _, (((unhide HK1).setCell (by simp) _).setCell (by simp) _).setCell (by simp) _, by simp [blk]⟩
    · obtain ⟨k, rfl⟩ : ∃ k : Nat, n = k := ⟨n.toNat, by omega⟩
      by_cases hs : p.length - i < k
      · have HV := hide (by have h2 : (p.length : Int) - i < k := (by omega); simp [rRaw, h2] : rRaw p i 0 k = ([], i, 3))
        have hs' : (p.length : Int) - i < k := by omega
        clear h
        go_enter Try.func125, Try.ntmps125
        go_wp2_with fail
        refine (fault_any _ p.length c i 0 3 _).mono ?_
        rintro r w1 ⟨rfl, k1⟩
        obtain ⟨⟨c0, c1, c2⟩, f0, f1, f2⟩ := three (k1.heap (heap_alloc2_new w _ _) (by simp))
        have HK1 := hide ((((Kept.refl [] w).alloc _).alloc _).trans k1 (by simp))
        clear k1
        go_wp2
        refine bodyPost_ret (v := .tuple #[.slice none 0 0, rrV (.slice ao p.length c) i 3]) (by simp [results, Try.results125, go_sem, c0, c1, c2]) rfl ?_
        rw [unhide HV]
        exact ⟨_, rfl, Rd.nil _, (((unhide HK1).setCell (by simp) _).setCell (by simp) _).setCell (by simp) _, by simp [blk]⟩
      · have HV := hide (by have h2 : ¬ (p.length : Int) - i < k := (by omega); simp [rRaw, h2] : rRaw p i 0 k = ((p.drop i).take k, i + k, 0))
        have hs' : ¬ (p.length : Int) - i < k := by omega
        have hik : (i : Int) + k ≤ p.length := by omega
        have hi0 : (0 : Int) ≤ i := by omega
        have hk0 : (0 : Int) ≤ k := by omega
        have HR := hide h
        have hcc : (p.length : Int) ≤ c := by obtain ⟨_, _, _, hE, _, h2, _⟩ := h; cases hE; omega
        have hc2 : (c : Int) ≤ 9223372036854775807 := by obtain ⟨_, _, _, hE, _, _, ⟨h3, _⟩, _⟩ := h; cases hE; omega
        clear h
        go_enter Try.func125, Try.ntmps125
        go_wp2_with fail
        all_goals
          have hl2 : ((p.drop i).take k).length = k := by simp; omega
          have hby : ∀ y ∈ (p.drop i).take k, y < 256 := fun y hy => (unhide HR).byte y (List.mem_of_mem_drop (List.mem_of_mem_take hy))
          refine (twin_any _ ((p.drop i).take k) _ (by first | exact ((unhide HR).sub0 (by assumption) (by omega)).old (((Kept.refl [] w).alloc _).alloc _) (by simp) | exact ((unhide HR).sub (by omega)).old (((Kept.refl [] w).alloc _).alloc _) (by simp))).mono ?_
          rintro r w1 ⟨rfl, k1, h1⟩
          have hfr := rd_fresh h1 hby (by omega)
          rw [hl2] at hfr ⊢
          have HRf := hide hfr
          obtain ⟨⟨b0, b1, b2⟩, g0, g1, g2⟩ := three (k1.heap (heap_alloc2_old w _ _) (by simp))
          obtain ⟨⟨c0, c1, c2⟩, f0, f1, f2⟩ := three (k1.heap (heap_alloc2_new w _ _) (by simp))
          have hlt1 := lt_of_block h1
          have HK1 := hide ((((Kept.refl [] w).alloc _).alloc _).trans k1 (by simp))
          have hsz1 : w.heap.size + 2 < w1.heap.size := by simp at hlt1; omega
          clear k1 h1 hfr hlt1
          go_wp2_with fail
          go_region
          all_goals go_wp2
          refine bodyPost_ret (v := .tuple #[.slice (some ⟨w.heap.size + 1 + 1, 0, none⟩) k k, rrV (.slice ao p.length c) ((i : Int) + k) 0]) (by simp [results, Try.results125, go_sem, b0, b1, b2, c0, c1, c2] <;> omega) rfl ?_
          rw [unhide HV]
          refine ⟨.slice (some ⟨w.heap.size + 1 + 1, 0, none⟩) k k, by simp, ?_, ?_, by simp [blk]; omega⟩
          · have h7 := unhide HRf
            have h7' : Rd w1 (.slice (some ⟨w.heap.size + 1 + 1, 0, none⟩) k k) ((p.drop i).take k) := by simpa using h7
            exact h7'.kept (L := [w.heap.size, w.heap.size + 1]) (by repeat (first | exact Kept.refl _ _ | apply Kept.drew | apply Kept.alloc | (refine Kept.setCell ?_ (by simp) _))) (by simp [blk]; omega)
          · exact (unhide HK1).trans (M := [w.heap.size, w.heap.size + 1]) (by repeat (first | exact Kept.refl _ _ | apply Kept.drew | apply Kept.alloc | (refine Kept.setCell ?_ (by simp) _))) (by simp)
  · have he' : ((e : Int) != 0) = true := by rw [bne_iff_ne]; omega
    have HV := hide (by simp [rRaw, he] : rRaw p i e n = ([], i, e))
    clear he h
    go_enter Try.func125, Try.ntmps125
    go_wp2_with fail
    go_region
    all_goals go_wp2
    refine bodyPost_ret (v := .tuple #[.slice none 0 0, rrV (.slice ao p.length c) i e]) (by simp [results, Try.results125, go_sem]) rfl ?_
    rw [unhide HV]
    exact ⟨_, rfl, Rd.nil _, (by repeat (first | exact Kept.refl _ _ | apply Kept.drew | apply Kept.alloc | (refine Kept.setCell ?_ (by simp) _))), by simp [blk]⟩
end Go.Proofs.Ytkcanelboloihaa
