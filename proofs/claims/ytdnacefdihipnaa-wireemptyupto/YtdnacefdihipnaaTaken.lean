import Derived.Test.YtdnacefdihipnaaRefTake3
import Derived.Test.YtdnacefdihipnaaOneWay
import Derived.Deep.DeepCutAuto
namespace Go.Proofs.Ytdnacefdihipnaa
open Go.RowKit
set_option linter.unusedVariables false
set_option linter.unusedSimpArgs false
attribute [local go_sem ↓] Go.wp_at_zero Go.wp_at_succ

set_option maxRecDepth 100000 in
set_option maxHeartbeats 1000000 in
theorem refDone_any (ao : Option Addr) (c : Nat) (p : List Nat) (i e : Nat) (w : World) :
    Calls Try.prog 43 #[rrV (.slice ao p.length c) i e] w fun r w' => r = .returned (.int .i64 (doneE p i e)) ∧ Kept [] w w' := by
  by_cases he : e = 0
  · subst he
    by_cases hi : i < p.length
    · have HV := hide (by simp [doneE, hi] : doneE p i 0 = 3)
      have hi' : (i : Int) < p.length := by omega
      go_enter Try.func43, Try.ntmps43
      go_wp2
      go_ret
      exact ⟨by rw [unhide HV]; rfl, (Kept.refl [] w).alloc _⟩
    · have HV := hide (by simp [doneE, hi] : doneE p i 0 = 0)
      have hi' : ¬ (i : Int) < p.length := by omega
      go_enter Try.func43, Try.ntmps43
      go_wp2
      go_ret
      exact ⟨by rw [unhide HV]; rfl, (Kept.refl [] w).alloc _⟩
  · have HV := hide (by simp [doneE, he] : doneE p i e = e)
    have he' : ((e : Int) == 0) = false := by simp; omega
    clear he
    go_enter Try.func43, Try.ntmps43
    go_wp2
    go_ret
    exact ⟨by rw [unhide HV]; rfl, (Kept.refl [] w).alloc _⟩

theorem rNum_lt {P : List Nat} {i e n : Nat} (hb : ∀ y ∈ P, y < 256) (hn : n ≤ 8) (hi : i ≤ P.length) : (rNum P i e n).1 < 256 ^ n := by
  have hp : 0 < 256 ^ n := Nat.pow_pos (by omega)
  by_cases he : e = 0
  · subst he
    obtain ⟨v, j, f, hf⟩ : ∃ v j f, rNum P i 0 n = (v, j, f) := ⟨_, _, _, rfl⟩
    rw [hf]
    by_cases hf0 : f = 0
    · subst hf0; exact (rNum_one hf hb hn hi).2.2.2
    · have : v = 0 := by
        simp only [rNum, ne_eq, not_true_eq_false, if_false] at hf
        split at hf
        · simp at hf; omega
        · simp at hf; omega
      subst this; exact hp
  · simp only [rNum, ne_eq, he, not_false_eq_true, if_true]; exact hp

/-- What was there is there: two rules for a walk. -/
theorem kcell {w w1 : World} (k : Kept [] w w1) : (∀ b o, b < w.heap.size → w1.cell? ⟨b, o, none⟩ = w.cell? ⟨b, o, none⟩) ∧ (∀ b o, b < w.heap.size → w1.frozen? ⟨b, o, none⟩ = w.frozen? ⟨b, o, none⟩) :=
  ⟨fun b o h => World.cell?_of_block (k.block b h (by simp)), fun b o h => World.frozen?_of_block (k.block b h (by simp))⟩

/-- What 'take' answers of a kind with a width. -/
theorem rTake_w {P : List Nat} {i e : Nat} {k n : Int} (hb : ∀ y ∈ P, y < 256) (hi : i ≤ P.length) (hw : 0 < widthN k) : rTake P i e k n = ((rNum P i e (widthN k)).1, [], (rNum P i e (widthN k)).2) ∧ widthN k ≤ 8 := by
  rcases kinds4 k with rfl | rfl | rfl | rfl | ⟨h1, h2, h3, h4⟩
  · refine ⟨?_, by decide⟩
    have := rNum_lt (e := e) (n := 1) hb (by omega) hi
    show ((rNum P i e 1).1 % 256, [], (rNum P i e 1).2) = ((rNum P i e 1).1, [], (rNum P i e 1).2)
    rw [Nat.mod_eq_of_lt (by omega)]
  · refine ⟨?_, by decide⟩
    have := rNum_lt (e := e) (n := 2) hb (by omega) hi
    show ((rNum P i e 2).1 % 65536, [], (rNum P i e 2).2) = ((rNum P i e 2).1, [], (rNum P i e 2).2)
    rw [Nat.mod_eq_of_lt (by omega)]
  · refine ⟨?_, by decide⟩
    have := rNum_lt (e := e) (n := 4) hb (by omega) hi
    show ((rNum P i e 4).1 % 4294967296, [], (rNum P i e 4).2) = ((rNum P i e 4).1, [], (rNum P i e 4).2)
    rw [Nat.mod_eq_of_lt (by omega)]
  · exact ⟨rfl, by decide⟩
  · simp [widthN, h1, h2, h3, h4] at hw

set_option maxRecDepth 100000 in
set_option maxHeartbeats 8000000 in
theorem taken_wide (ao : Option Addr) (c : Nat) (p : List Nat) (i e : Nat) (k : Int) (x : Nat) (n : Int) (pv : Value) (w : World) (h : Rd w (.slice ao p.length c) p) (hi : i ≤ p.length) (hw : 0 < widthN k) (h8 : widthN k ≤ 8) :
    Calls Try.prog 20 #[rrV (.slice ao p.length c) i e, opV k x n pv] w fun r w' => r = .returned (.tuple #[.int .u64 (rNum p i e (widthN k)).1, .slice none 0 0, rrV (.slice ao p.length c) (rNum p i e (widthN k)).2.1 (rNum p i e (widthN k)).2.2]) ∧ Kept [] w w' := by
  have HR := hide h
  have hwid := fun W => width_any k W
  obtain ⟨m, hm⟩ : ∃ m, widthN k = m := ⟨_, rfl⟩
  simp only [hm] at hwid
  rw [hm] at hw h8 ⊢
  obtain ⟨z, j, f, hT⟩ : ∃ z j f, rNum p i e m = (z, j, f) := ⟨_, _, _, rfl⟩
  rw [hT]
  simp only
  have Hwid := hide hwid
  have HTW := hide (fun W (kW : Kept [] w W) => (by have h1 := takeWide_any ao c p i e m W (h.old kW (by simp)) hi h8; rw [hT] at h1; exact h1 : Calls Try.prog 49 #[rrV (.slice ao p.length c) i e, .int .i64 m] W fun r w' => r = .returned (.tuple #[.int .u64 z, rrV (.slice ao p.length c) j f]) ∧ Kept [] W w'))
  have hm0 : (0 : Int) < m := by omega
  clear hwid hm hT h
  go_enter Try.func20, Try.ntmps20
  go_wp2_with fail
  refine (unhide Hwid _).mono ?_
  rintro r w1 ⟨rfl, hw1⟩
  subst w1
  go_wp2_with fail
  go_cut [7, 8] (fun t7 t8 wc => t7 = .int .u64 z ∧ ∃ g, t8 = .pointer (some ⟨g, 0, none⟩) ∧ (wc.cell? ⟨g, 0, none⟩ = some (.slice ao p.length c) ∧ wc.cell? ⟨g, 1, none⟩ = some (.int .i64 j) ∧ wc.cell? ⟨g, 2, none⟩ = some (.int .i64 f)) ∧
      (wc.cell? ⟨w.heap.size + 1 + 1, 0, none⟩ = some (.slice none 0 0) ∧ wc.cell? ⟨w.heap.size + 1 + 1, 1, none⟩ = some (.int .i64 0) ∧ wc.cell? ⟨w.heap.size + 1 + 1, 2, none⟩ = some (.int .i64 0)) ∧
      (wc.frozen? ⟨w.heap.size + 1 + 1, 0, none⟩ = false ∧ wc.frozen? ⟨w.heap.size + 1 + 1, 1, none⟩ = false ∧ wc.frozen? ⟨w.heap.size + 1 + 1, 2, none⟩ = false) ∧ Hid (Kept [] w wc))
  case first =>
    go_region_with (first
      | (go_at_call 38; refine (unhide Hwid _).mono ?_; rintro r w2 ⟨rfl, hw2⟩; subst w2)
      | (go_at_call 49; refine (unhide HTW _ (by repeat (first | exact Kept.refl _ _ | apply Kept.drew | apply Kept.alloc | (refine Kept.setCell ?_ (by simp) _)))).mono ?_; rintro r w3 ⟨rfl, k3⟩; obtain ⟨hc3, hf3⟩ := kcell k3; have hz3 := k3.size; simp at hz3; have HK3 := hide k3; clear k3))
    all_goals
      go_wp2_with fail
      go_meet
      case rel =>
        have hz4 : w.heap.size + 1 + 1 < w3.heap.size := by omega
        refine ⟨rfl, _, rfl, ?_, ?_, ?_, ?_⟩
        · simp [go_sem, hc3, hf3]
        · simp [go_sem, hc3, hf3, hz4]
        · simp [go_sem, hc3, hf3, hz4]
        · refine hide ?_
          repeat (first | apply Kept.drew | (refine Kept.setCell ?_ (by simp <;> omega) _) | exact Kept.trans (by repeat (first | exact Kept.refl _ _ | apply Kept.drew | apply Kept.alloc | (refine Kept.setCell ?_ (by simp) _))) (unhide HK3) (by simp) | apply Kept.alloc)
  case rest =>
    obtain ⟨rfl, g, rfl, ⟨d0, d1, d2⟩, ⟨e0, e1, e2⟩, ⟨f0, f1, f2⟩, HKc⟩ := hcut
    go_wp2_with fail
    go_region
    all_goals go_wp2
    refine bodyPost_ret (v := .tuple #[.int .u64 z, .slice none 0 0, rrV (.slice ao p.length c) j f]) (by simp [results, Try.results20, go_sem, e0, e1, e2]) rfl ⟨rfl, ?_⟩
    repeat (first | exact unhide HKc | apply Kept.drew | (refine Kept.setCell ?_ (by simp <;> omega) _))
end Go.Proofs.Ytdnacefdihipnaa
