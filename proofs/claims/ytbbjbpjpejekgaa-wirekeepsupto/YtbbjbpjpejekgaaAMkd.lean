import Derived.Test.YtbbjbpjpejekgaaAGrow
import Derived.BigFrame
namespace Go.Proofs.Ytbbjbpjpejekgaa
open Go.RowKit Go.BigFrame
set_option linter.unusedVariables false
set_option linter.unusedSimpArgs false

theorem mk3_get (r i n j : Nat) (h : j < n) : (mk3 r i n).getD j 0 = markN r i j := by simp [mk3, List.getD_eq_getElem?_getD, h]

set_option maxRecDepth 100000 in
set_option maxHeartbeats 2000000 in
theorem marked_any (v g : Value) (n m r i : Nat) (w : World) (h : Rd w v (mk3 r i n)) (h' : Rd w g (mk3 r i m)) (hn : n ≤ 4194304) (hm : m ≤ 4194400) (hi : i ≤ 4194304) (hr : r < 2) :
    Calls Try.prog 48 #[v, g, .int .i64 r, .int .i64 i] w fun e w' => e = .returned (.bool true) ∧ Kept [] w w' := by
  obtain ⟨a1, n1, c1, rfl, he, h2, ⟨h3, h3'⟩, h4, h5, h6⟩ := h
  rw [mk3_len] at he
  subst he
  obtain ⟨a2, n2, c2, rfl, he, g2, ⟨g3, g3'⟩, g4, g5, g6⟩ := h'
  rw [mk3_len] at he
  subst he
  have H6 := hide h6
  have G6 := hide g6
  have HM := hide (fun (j : Nat) (hj : j ≤ 8388608) W => mark_any r i j W hi hj hr)
  clear h4 h5 h6 g4 g5 g6
  go_enter Try.func48, Try.ntmps48
  go_wp2_with fail
  go_loopw [9, 13] (fun t6 t9 wr => ∃ (k d : Nat), k ≤ n ∧ t9 = .int .i64 k ∧ wr = w.drewN d) (fun _ t _ => n - (intOf t).toNat)
  case atStart => exact ⟨0, 0, by omega, rfl, rfl⟩
  case round =>
    obtain ⟨k, d, hk, rfl, rfl⟩ := hrel
    by_cases hlt : k < n
    · have hlt' : (k : Int) < n := by omega
      obtain ⟨b, o, rfl, hc⟩ := unhide H6 (by omega)
      have ck := hc k hlt
      rw [mk3_get r i n k hlt] at ck
      have HMK := hide (unhide HM k (by omega))
      clear hc
      go_wp2_with fail
      go_quiet (first | (go_at_call 46; exact (unhide HMK _).mono (fun x w' hx => ⟨hx.1, _, hx.2⟩)))
      go_wp2
      go_roundw
      case rel => exact ⟨k + 1, _, by omega, by go_num, rfl⟩
      case measure => simp [intOf]; omega
    · have hlt' : ¬ (k : Int) < n := by omega
      go_wp2_with fail
      go_loopw [10, 28] (fun t6 t9 wr => ∃ (k d : Nat), k ≤ m ∧ t9 = .int .i64 k ∧ wr = w.drewN d) (fun _ t _ => m - (intOf t).toNat)
      case atStart => exact ⟨0, d, by omega, rfl, rfl⟩
      case round =>
        obtain ⟨x, d2, hx, rfl, rfl⟩ := hrel
        by_cases hlx : x < m
        · have hlx' : (x : Int) < m := by omega
          obtain ⟨b, o, rfl, hc⟩ := unhide G6 (by omega)
          have ck := hc x hlx
          rw [mk3_get r i m x hlx] at ck
          have HMK := hide (unhide HM x (by omega))
          clear hc
          go_wp2_with fail
          go_quiet (first | (go_at_call 46; exact (unhide HMK _).mono (fun x w' hx => ⟨hx.1, _, hx.2⟩)))
          go_wp2
          go_roundw
          case rel => exact ⟨x + 1, _, by omega, by go_num, rfl⟩
          case measure => simp [intOf]; omega
        · have hlx' : ¬ (x : Int) < m := by omega
          go_wp2
          go_ret
          exact ⟨rfl, (Kept.refl [] w).drewN d2⟩
end Go.Proofs.Ytbbjbpjpejekgaa
