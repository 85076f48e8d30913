import Derived.Test.YtdnacefdihipnaaTaken
namespace Go.Proofs.Ytdnacefdihipnaa
open Go.RowKit
set_option linter.unusedVariables false
set_option linter.unusedSimpArgs false
attribute [local go_sem ↓] Go.wp_at_zero Go.wp_at_succ

set_option maxRecDepth 100000 in
set_option maxHeartbeats 8000000 in
theorem taken_any (ao : Option Addr) (c : Nat) (p : List Nat) (i e : Nat) (k : Int) (x : Nat) (n : Int) (pv : Value) (w : World) (h : Rd w (.slice ao p.length c) p) (hi : i ≤ p.length) (hn : -9223372036854775808 ≤ n ∧ n ≤ 9223372036854775807) :
    Calls Try.prog 20 #[rrV (.slice ao p.length c) i e, opV k x n pv] w fun r w' => ∃ rv, r = .returned (.tuple #[.int .u64 (rTake p i e k n).1, rv, rrV (.slice ao p.length c) (rTake p i e k n).2.2.1 (rTake p i e k n).2.2.2]) ∧ Rd w' rv (rTake p i e k n).2.1 ∧ Kept [] w w' ∧ ∀ y ∈ blk rv, w.heap.size ≤ y := by
  by_cases hw : 0 < widthN k
  · obtain ⟨hT, h8⟩ := rTake_w (e := e) (n := n) h.byte hi hw
    rw [hT]
    exact (taken_wide ao c p i e k x n pv w h hi hw h8).mono fun r w' hr => ⟨_, hr.1, Rd.nil _, hr.2, by simp [blk]⟩
  · have hw0 : widthN k = 0 := by omega
    have HR := hide h
    have Hwid := hide (fun W => width_any k W)
    have Hw0 := hide hw0
    rcases kinds7 k with rfl | rfl | rfl | rfl | rfl | rfl | rfl | ⟨h1, h2, h3, h4, h5, h6, h7⟩
    · exact absurd (by decide) hw
    · exact absurd (by decide) hw
    · exact absurd (by decide) hw
    · exact absurd (by decide) hw
    · clear hw hw0 h
      obtain ⟨z, j, f, hU⟩ : ∃ z j f, rUvar p i e = (z, j, f) := ⟨_, _, _, rfl⟩
      have HV := hide (by simp [rTake, hU] : rTake p i e 5 n = (z, [], j, f))
      have HU := hide hU
      clear hU
      go_enter Try.func20, Try.ntmps20
      go_wp2_with fail
      refine (unhide Hwid _).mono ?_
      rintro r w1 ⟨rfl, hw1⟩
      subst w1
      rw [unhide Hw0]
      go_wp2_with fail
      refine (takeUvar_any ao c p i e _ (by exact (unhide HR).old ((((Kept.refl [] w).alloc _).alloc _).alloc _) (by simp)) hi).mono ?_
      rintro r w3 ⟨rfl, k3⟩
      rw [unhide HU]
      simp only
      obtain ⟨hc3, hf3⟩ := kcell k3
      have hz3 := k3.size
      simp at hz3
      have hz4 : w.heap.size + 1 + 1 < w3.heap.size := by omega
      have HK3 := hide (((((Kept.refl [] w).alloc _).alloc _).alloc _).trans k3 (by simp))
      clear k3
      go_wp2_with fail
      go_region
      all_goals go_wp2
      refine bodyPost_ret (v := .tuple #[.int .u64 z, .slice none 0 0, rrV (.slice ao p.length c) j f]) (by simp [results, Try.results20, go_sem, hc3, hf3, hz4]) rfl ?_
      rw [unhide HV]
      refine ⟨_, rfl, Rd.nil _, ?_, by simp [blk]⟩
      repeat (first | exact unhide HK3 | apply Kept.drew | apply Kept.alloc | (refine Kept.setCell ?_ (by simp <;> omega) _))
    · clear hw hw0 h
      obtain ⟨q, j, f, hU⟩ : ∃ q j f, rRaw p i e n = (q, j, f) := ⟨_, _, _, rfl⟩
      have HV := hide (by simp [rTake, hU] : rTake p i e 6 n = (0, q, j, f))
      have HU := hide hU
      clear hU
      go_enter Try.func20, Try.ntmps20
      go_wp2_with fail
      refine (unhide Hwid _).mono ?_
      rintro r w1 ⟨rfl, hw1⟩
      subst w1
      rw [unhide Hw0]
      go_wp2_with fail
      refine (takeRaw_any ao c p i e n _ (by exact (unhide HR).old ((((Kept.refl [] w).alloc _).alloc _).alloc _) (by simp)) hi hn).mono ?_
      rintro r w3 ⟨rv, rfl, hr3, k3, hb3⟩
      rw [unhide HU] at hr3 ⊢
      simp only at hr3
      obtain ⟨hc3, hf3⟩ := kcell k3
      have hz3 := k3.size
      simp at hz3
      have hz4 : w.heap.size + 1 + 1 < w3.heap.size := by omega
      have HK3 := hide (((((Kept.refl [] w).alloc _).alloc _).alloc _).trans k3 (by simp))
      have HRv := hide hr3
      have HBv := hide (fun y (hy : y ∈ blk rv) => (by have := hb3 y hy; simp at this; omega : w.heap.size + 1 + 1 < y))
      obtain ⟨ao5, n5, c5, hrv⟩ : ∃ ao n c, rv = .slice ao n c := by obtain ⟨ao, n, c, e, _⟩ := hr3; exact ⟨ao, n, c, e⟩
      subst hrv
      clear k3 hr3 hb3
      go_wp2_with fail
      go_region
      all_goals go_wp2
      refine bodyPost_ret (v := .tuple #[.int .u64 0, .slice ao5 n5 c5, rrV (.slice ao p.length c) j f]) (by simp [results, Try.results20, go_sem, hc3, hf3, hz4]) rfl ?_
      rw [unhide HV]
      refine ⟨.slice ao5 n5 c5, rfl, ?_, ?_, fun y hy => by have := unhide HBv y hy; omega⟩
      · refine (unhide HRv).kept (L := [w.heap.size + 1 + 1]) ?_ (by intro y hy; have := unhide HBv y hy; simp; omega)
        repeat (first | exact Kept.refl _ _ | apply Kept.drew | apply Kept.alloc | (refine Kept.setCell ?_ (by simp) _))
      · repeat (first | exact unhide HK3 | apply Kept.drew | apply Kept.alloc | (refine Kept.setCell ?_ (by simp <;> omega) _))
    · clear hw hw0 h
      obtain ⟨q, j, f, hU⟩ : ∃ q j f, rBlob p i e n = (q, j, f) := ⟨_, _, _, rfl⟩
      have HV := hide (by simp [rTake, hU] : rTake p i e 7 n = (0, q, j, f))
      have HU := hide hU
      clear hU
      go_enter Try.func20, Try.ntmps20
      go_wp2_with fail
      refine (unhide Hwid _).mono ?_
      rintro r w1 ⟨rfl, hw1⟩
      subst w1
      rw [unhide Hw0]
      go_wp2_with fail
      refine (takeBlob_any ao c p i e n _ (by exact (unhide HR).old ((((Kept.refl [] w).alloc _).alloc _).alloc _) (by simp)) hi hn).mono ?_
      rintro r w3 ⟨rv, rfl, hr3, k3, hb3⟩
      rw [unhide HU] at hr3 ⊢
      simp only at hr3
      obtain ⟨hc3, hf3⟩ := kcell k3
      have hz3 := k3.size
      simp at hz3
      have hz4 : w.heap.size + 1 + 1 < w3.heap.size := by omega
      have HK3 := hide (((((Kept.refl [] w).alloc _).alloc _).alloc _).trans k3 (by simp))
      have HRv := hide hr3
      have HBv := hide (fun y (hy : y ∈ blk rv) => (by have := hb3 y hy; simp at this; omega : w.heap.size + 1 + 1 < y))
      obtain ⟨ao5, n5, c5, hrv⟩ : ∃ ao n c, rv = .slice ao n c := by obtain ⟨ao, n, c, e, _⟩ := hr3; exact ⟨ao, n, c, e⟩
      subst hrv
      clear k3 hr3 hb3
      go_wp2_with fail
      go_region
      all_goals go_wp2
      refine bodyPost_ret (v := .tuple #[.int .u64 0, .slice ao5 n5 c5, rrV (.slice ao p.length c) j f]) (by simp [results, Try.results20, go_sem, hc3, hf3, hz4]) rfl ?_
      rw [unhide HV]
      refine ⟨.slice ao5 n5 c5, rfl, ?_, ?_, fun y hy => by have := unhide HBv y hy; omega⟩
      · refine (unhide HRv).kept (L := [w.heap.size + 1 + 1]) ?_ (by intro y hy; have := unhide HBv y hy; simp; omega)
        repeat (first | exact Kept.refl _ _ | apply Kept.drew | apply Kept.alloc | (refine Kept.setCell ?_ (by simp) _))
      · repeat (first | exact unhide HK3 | apply Kept.drew | apply Kept.alloc | (refine Kept.setCell ?_ (by simp <;> omega) _))
    · have t5 : (k == 5) = false := by simp [h5]
      have t6 : (k == 6) = false := by simp [h6]
      have t7 : (k == 7) = false := by simp [h7]
      have HV := hide (by simp [rTake, h1, h2, h3, h4, h5, h6, h7] : rTake p i e k n = (0, [], i, e))
      clear hw hw0 h h1 h2 h3 h4 h5 h6 h7
      go_enter Try.func20, Try.ntmps20
      go_wp2_with fail
      refine (unhide Hwid _).mono ?_
      rintro r w1 ⟨rfl, hw1⟩
      subst w1
      rw [unhide Hw0]
      go_wp2_with fail
      go_region
      all_goals go_wp2
      refine bodyPost_ret (v := .tuple #[.int .u64 0, .slice none 0 0, rrV (.slice ao p.length c) i e]) (by simp [results, Try.results20, go_sem]) rfl ?_
      rw [unhide HV]
      refine ⟨_, rfl, Rd.nil _, ?_, by simp [blk]⟩
      repeat (first | exact Kept.refl _ _ | apply Kept.drew | apply Kept.alloc | (refine Kept.setCell ?_ (by simp <;> omega) _))
end Go.Proofs.Ytdnacefdihipnaa
