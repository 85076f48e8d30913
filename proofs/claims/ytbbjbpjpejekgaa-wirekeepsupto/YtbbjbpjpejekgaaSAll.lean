import Derived.Test.YtbbjbpjpejekgaaSame
import Derived.Test.YtbbjbpjpejekgaaDSum
import Derived.Test.YtbbjbpjpejekgaaQTail
namespace Go.Proofs.Ytbbjbpjpejekgaa
open Go.RowKit Go.BigFrame
set_option linter.unusedVariables false
set_option linter.unusedSimpArgs false

theorem take_succ_eqL {p q : List (List Nat)} {k : Nat} (h : p.take k = q.take k) (hp : k < p.length) (hq : k < q.length) (e : p.getD k [] = q.getD k []) : p.take (k + 1) = q.take (k + 1) := by
  rw [List.take_succ_eq_append_getElem hp, List.take_succ_eq_append_getElem hq, h]
  rw [List.getD_eq_getElem?_getD, List.getD_eq_getElem?_getD, List.getElem?_eq_getElem hp, List.getElem?_eq_getElem hq] at e
  simp only [Option.getD_some] at e
  rw [e]

set_option maxRecDepth 100000 in
set_option maxHeartbeats 1000000 in
theorem sameAll_any (u v : Value) (xs ys : List (List Nat)) (w : World) (hu : RdL w u xs) (hv : RdL w v ys) :
    Calls Try.prog 25 #[u, v] w fun e w' => e = .returned (.bool (decide (xs = ys))) ∧ ∃ n, w' = w.drewN n := by
  obtain ⟨ao, len, cap, us, rfl, h1, h2, h3, h4, h5, h6⟩ := hu
  obtain ⟨ao', len', cap', vs, rfl, g1, g2, g3, g4, g5, g6⟩ := hv
  subst h2
  subst g2
  have H5 := hide h5
  have G5 := hide g5
  have H6 := hide h6
  have G6 := hide g6
  clear h5 g5 h6 g6
  by_cases hl : xs.length = ys.length
  · have hl' : ((xs.length : Int) != ys.length) = false := by simp [hl]
    have Hl := hide hl
    clear hl
    go_enter Try.func25, Try.ntmps25
    go_wp2_with fail
    go_loopw [5, 13] (fun t i wr => ∃ k : Nat, k ≤ xs.length ∧ i = .int .i64 k ∧ Hid (xs.take k = ys.take k) ∧ ∃ n, wr = w.drewN n) (fun _ i _ => xs.length - (intOf i).toNat)
    case atStart => exact ⟨0, Nat.zero_le _, rfl, (by show _ = _; simp), 0, rfl⟩
    case round =>
      obtain ⟨k, hk, rfl, Ht, n, rfl⟩ := hrel
      by_cases hlt : k < xs.length
      · have hlt2 : k < ys.length := by have := unhide Hl; omega
        obtain ⟨ba, oa, rfl, ha⟩ := unhide H5 (by omega)
        obtain ⟨bb, ob, rfl, hb⟩ := unhide G5 (by omega)
        have ca := ha k hlt
        have cb := hb k hlt2
        have hq : (k : Int) < (ys.length : Int) := by omega
        have hp : (k : Int) < (xs.length : Int) := by omega
        clear ha hb
        have HS := hide (fun m => (same_any (us.getD k undef) (vs.getD k undef) (xs.getD k []) (ys.getD k []) (w.drewN (n + m)) ((unhide H6 k hlt).old ((Kept.refl [] w).drewN (n + m)) (by simp)) ((unhide G6 k hlt2).old ((Kept.refl [] w).drewN (n + m)) (by simp))).mono (fun e w' (hx : e = .returned (.bool (decide (xs.getD k [] = ys.getD k []))) ∧ ∃ o, w' = (w.drewN (n + m)).drewN o) => (by obtain ⟨h1, o, h2⟩ := hx; exact ⟨h1, m + o, by rw [h2, drewN_drewN, Nat.add_assoc]⟩ : e = .returned (.bool (decide (xs.getD k [] = ys.getD k []))) ∧ ∃ o, w' = w.drewN (n + o))))
        generalize us.getD k undef = x at ca HS
        generalize vs.getD k undef = y at cb HS
        by_cases e : xs.getD k [] = ys.getD k []
        · have Hn := hide (take_succ_eqL (unhide Ht) hlt hlt2 e)
          rw [decide_eq_true e] at HS
          clear e
          go_wp2_with fail
          refine wp_region_quiet_lit (by kernel_rfl) (by kernel_rfl) ?_
          repeat (go_big_quiet_step (first | (go_at_call 9; exact unhide HS _)))
          refine wpQuiet_nil ?_
          rintro _ ⟨n2, rfl⟩
          rw [drewN_drewN]
          go_wp2
          refine ⟨⟨k + 1, by omega, by go_num, Hn, _, rfl⟩, ?_⟩
          simp [intOf]; omega
        · have Hn := hide (fun h => e (by rw [h]) : ¬ xs = ys)
          rw [decide_eq_false e] at HS
          clear e
          go_wp2_with fail
          refine wp_region_quiet_lit (by kernel_rfl) (by kernel_rfl) ?_
          repeat (go_big_quiet_step (first | (go_at_call 9; exact unhide HS _)))
          refine wpQuiet_nil ?_
          rintro _ ⟨n2, rfl⟩
          rw [drewN_drewN]
          go_wp2
          go_ret
          exact ⟨by simp; exact unhide Hn, _, rfl⟩
      · go_wp2
        go_ret
        have e : xs = ys := by
          have h1 := unhide Ht
          have h2 := unhide Hl
          rwa [List.take_of_length_le (by omega), List.take_of_length_le (by omega)] at h1
        exact ⟨by simp [e], _, rfl⟩
  · have hl' : ((xs.length : Int) != ys.length) = true := by rw [bne_iff_ne]; omega
    have Hl := hide hl
    clear hl
    go_enter Try.func25, Try.ntmps25
    go_wp2
    go_ret
    exact ⟨by simp; intro h; exact unhide Hl (by rw [h]), 0, rfl⟩
end Go.Proofs.Ytbbjbpjpejekgaa
