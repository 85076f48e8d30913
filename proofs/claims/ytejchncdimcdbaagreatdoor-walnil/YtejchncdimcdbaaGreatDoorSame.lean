import Derived.Test.YtejchncdimcdbaaGreatDoorCloned
namespace Go.Proofs.YtejchncdimcdbaaGreatDoor
open Go.RowKit
set_option linter.unusedVariables false
set_option linter.unusedSimpArgs false

theorem take_succ_eq {p q : List Nat} {k : Nat} (h : p.take k = q.take k) (hp : k < p.length) (hq : k < q.length) (e : p.getD k 0 = q.getD k 0) : p.take (k + 1) = q.take (k + 1) := by
  rw [List.take_succ_eq_append_getElem hp, List.take_succ_eq_append_getElem hq, h]
  rw [List.getD_eq_getElem?_getD, List.getD_eq_getElem?_getD, List.getElem?_eq_getElem hp, List.getElem?_eq_getElem hq] at e
  simp only [Option.getD_some] at e
  rw [e]
theorem drewN_drewN (w : World) (n m : Nat) : (w.drewN n).drewN m = w.drewN (n + m) := by simp [World.drewN, Nat.add_assoc]
theorem ne_of_getD {p q : List Nat} {k : Nat} (e : p.getD k 0 ≠ q.getD k 0) : p ≠ q := fun h => e (by rw [h])

set_option maxRecDepth 100000 in
set_option maxHeartbeats 1000000 in
theorem same_any (u v : Value) (p q : List Nat) (w : World) (hu : Rd w u p) (hv : Rd w v q) :
    Calls Tryz.prog 103 #[u, v] w fun e w' => e = .returned (.bool (decide (p = q))) ∧ ∃ n, w' = w.drewN n := by
  obtain ⟨ao, len, cap, rfl, rfl, h2, ⟨h3, h3'⟩, h4, h5, h6⟩ := hu
  obtain ⟨ao', len', cap', rfl, rfl, g2, ⟨g3, g3'⟩, g4, g5, g6⟩ := hv
  have H6 := hide h6
  have G6 := hide g6
  clear h6 g6 h4 g4 h5 g5
  by_cases hl : p.length = q.length
  · have hl' : ((p.length : Int) != q.length) = false := by simp [hl]
    have Hl := hide hl
    clear hl
    go_enter Tryz.func103, Tryz.ntmps103
    go_wp2_with fail
    go_loopw [5, 13] (fun t i wr => ∃ k : Nat, k ≤ p.length ∧ i = .int .i64 k ∧ Hid (p.take k = q.take k) ∧ ∃ n, wr = w.drewN n) (fun _ i _ => p.length - (intOf i).toNat)
    case atStart => exact ⟨0, Nat.zero_le _, rfl, (by show _ = _; simp), 0, rfl⟩
    case round =>
      obtain ⟨k, hk, rfl, Ht, n, rfl⟩ := hrel
      by_cases hlt : k < p.length
      · obtain ⟨ba, oa, rfl, ha⟩ := unhide H6 (by omega)
        obtain ⟨bb, ob, rfl, hb⟩ := unhide G6 (by have := unhide Hl; omega)
        have ca := ha k hlt
        have cb := hb k (by have := unhide Hl; omega)
        have hq : (k : Int) < (q.length : Int) := by have := unhide Hl; omega
        have hp : (k : Int) < (p.length : Int) := by omega
        clear ha hb
        by_cases e : p.getD k 0 = q.getD k 0
        · have Hn := hide (take_succ_eq (unhide Ht) hlt (by have := unhide Hl; omega) e)
          rw [← e] at cb
          obtain ⟨x, hx⟩ : ∃ x, x = p.getD k 0 := ⟨_, rfl⟩
          rw [← hx] at ca cb
          clear e hx
          go_wp2_with fail
          go_quiet (fail)
          go_wp2
          go_roundw
          case rel => exact ⟨k + 1, by omega, by go_num, Hn, _, rfl⟩
          case measure => simp [intOf]; omega
        · have Hn := hide (ne_of_getD e)
          have hne : ((p.getD k 0 : Int) != (q.getD k 0 : Int)) = true := by rw [bne_iff_ne]; omega
          obtain ⟨x, hx⟩ : ∃ x, x = p.getD k 0 := ⟨_, rfl⟩
          obtain ⟨y, hy⟩ : ∃ y, y = q.getD k 0 := ⟨_, rfl⟩
          rw [← hx] at ca hne
          rw [← hy] at cb hne
          clear e hx hy
          go_wp2_with fail
          go_quiet (fail)
          go_wp2
          go_ret
          exact ⟨by simp [unhide Hn], _, drewN_drewN _ _ _⟩
      · go_wp2
        go_ret
        have e : p = q := by
          have h1 := unhide Ht
          have h2 := unhide Hl
          rwa [List.take_of_length_le (by omega), List.take_of_length_le (by omega)] at h1
        exact ⟨by simp [e], _, rfl⟩
  · have hl' : ((p.length : Int) != q.length) = true := by rw [bne_iff_ne]; omega
    have Hl := hide hl
    clear hl
    go_enter Tryz.func103, Tryz.ntmps103
    go_wp2
    go_ret
    exact ⟨by simp; intro h; exact unhide Hl (by rw [h]), 0, rfl⟩
end Go.Proofs.YtejchncdimcdbaaGreatDoor
