import Derived.Test.YtlopdlcepmmjdaaDkF
namespace Go.Proofs.Ytlopdlcepmmjdaa
open Go.RowKit Go.BigFrame Go.Maps Go.Sort
set_option linter.unusedVariables false
set_option linter.unusedSimpArgs false

/-- A slice that reads as strings. -/
def RdS (w : World) (v : Value) (ss : List (List UInt8)) : Prop :=
  ∃ (ao : Option Addr) (len cap : Nat), v = .slice ao len cap ∧ ss.length = len ∧ len ≤ cap ∧ cap ≤ 9223372036854775807 ∧ (0 < len → ∃ b off, ao = some ⟨b, off, none⟩ ∧ ∀ i (h : i < ss.length), w.cell? ⟨b, off + i, none⟩ = some (encStr ss[i]))
theorem RdS.kept {L : List Nat} {w w' : World} {v : Value} {ss : List (List UInt8)} (h : RdS w v ss) (k : Kept L w w') (hn : ∀ x ∈ blk v, x ∉ L) : RdS w' v ss := by
  obtain ⟨ao, len, cap, rfl, h1, h2, h3, h4⟩ := h
  refine ⟨ao, len, cap, rfl, h1, h2, h3, fun hp => ?_⟩
  obtain ⟨b, off, rfl, hc⟩ := h4 hp
  exact ⟨b, off, rfl, fun i hi => k.cell (hc i hi) (hn b (by simp [blk]))⟩
theorem rds_owns {w : World} {base : Nat} {v : Value} {ss : List (List UInt8)} (h : w.ownsRow base 9 1 v ss.length (ss.map encStr)) : RdS w v ss := by
  rcases h.2 with ⟨rfl, h0⟩ | ⟨g, cap, cur, rfl, hb, hg, hc, hm, hs, ht⟩
  · exact ⟨none, 0, 0, rfl, h0, Nat.le_refl _, by omega, fun h => by omega⟩
  · refine ⟨some ⟨g, 0, none⟩, ss.length, cap, rfl, rfl, hc, by unfold maxLen at hm; omega, fun hp => ⟨g, 0, rfl, fun i hi => ?_⟩⟩
    have h9 := h.cells (g := g) rfl i (encStr ss[i]) (by rw [List.getElem?_map, List.getElem?_eq_getElem hi]; rfl)
    rw [Addr.add_lit] at h9
    exact h9
theorem take_succ_str {p q : List (List UInt8)} {k : Nat} (h : p.take k = q.take k) (hp : k < p.length) (hq : k < q.length) (e : p[k] = q[k]) : p.take (k + 1) = q.take (k + 1) := by
  rw [List.take_succ_eq_append_getElem hp, List.take_succ_eq_append_getElem hq, h, e]

set_option maxRecDepth 100000 in
set_option maxHeartbeats 1000000 in
theorem names_any (u v : Value) (p q : List (List UInt8)) (w : World) (hu : RdS w u p) (hv : RdS w v q) :
    Calls Try.prog 32 #[u, v] w fun e w' => e = .returned (.bool (decide (p = q))) ∧ ∃ n, w' = w.drewN n := by
  obtain ⟨ao, len, cap, rfl, h1, h2, h3, h4⟩ := hu
  obtain ⟨bo, len', cap', rfl, g1, g2, g3, g4⟩ := hv
  subst h1 g1
  have H4 := hide h4
  have G4 := hide g4
  clear h4 g4
  by_cases hl : p.length = q.length
  · have hl1 : ((p.length : Int) != (q.length : Int)) = false := by simp; omega
    have HL := hide hl
    have hq2 : q.length ≤ cap := by omega
    clear hl
    go_enter Try.func32, Try.ntmps32
    go_wp2_with fail
    go_loopw [13] (fun t13 wr => ∃ k n : Nat, k ≤ p.length ∧ t13 = .int .i64 k ∧ Hid (p.take k = q.take k) ∧ Hid (wr = w.drewN n)) (fun t _ => p.length - (intOf t).toNat)
    case atStart => exact ⟨0, 0, Nat.zero_le _, rfl, hide rfl, hide rfl⟩
    case round =>
      obtain ⟨k, n, hk, rfl, HT, HW⟩ := hrel
      by_cases hlt : k < p.length
      · have hltq : k < q.length := by have := unhide HL; omega
        have e3 : (k : Int) < (p.length : Int) := by omega
        have e4 : (k : Int) < (q.length : Int) := by omega
        obtain ⟨b, off, rfl, hc⟩ := unhide H4 (by omega)
        obtain ⟨b', off', rfl, hc'⟩ := unhide G4 (by omega)
        have hkc : (k : Int) < cap := by omega
        have hkc' : (k : Int) < cap' := by omega
        have c0 : wr.cell? ⟨b, off + k, none⟩ = some (encStr p[k]) := by rw [unhide HW]; exact hc k hlt
        have c1 : wr.cell? ⟨b', off' + k, none⟩ = some (encStr q[k]) := by rw [unhide HW]; exact hc' k hltq
        have HP := hide (fun e => take_succ_str (unhide HT) hlt hltq e)
        have HNE := hide (fun (hn : p[k] ≠ q[k]) (e : p = q) => hn (by subst e; rfl))
        clear hc hc'
        generalize p[k] = P at c0 HP HNE
        generalize q[k] = Q at c1 HP HNE
        go_upto_region 6 with fail
        refine wp_region_quiet_lit (by kernel_rfl) (by kernel_rfl) ?_
        repeat (go_big_quiet_step (fail))
        refine wpQuiet_nil ?_
        rintro _ ⟨n5, rfl⟩
        by_cases he : P = Q
        · rw [show (P == Q) = true by simpa using he]
          have HE := hide he
          clear he c0 c1
          go_wp2_with fail
          refine ⟨⟨k + 1, n + n5, by omega, by simp, hide (unhide HP (unhide HE)), hide ?_⟩, ?_⟩
          · rw [unhide HW, drewN_drewN]
          · simp [intOf]; omega
        · have HF := hide (decide_eq_false (unhide HNE he))
          rw [show (P == Q) = false by simpa using he]
          clear he c0 c1
          go_wp2_with fail
          go_ret
          exact ⟨by rw [unhide HF]; rfl, n + n5, by rw [unhide HW, drewN_drewN]⟩
      · have e3 : ¬ (k : Int) < (p.length : Int) := by omega
        have hke : k = p.length := by omega
        have HPQ := hide (by
          have := unhide HT
          rw [hke, List.take_length, unhide HL, List.take_length] at this
          exact this : p = q)
        clear hlt hke
        go_wp2_with fail
        go_ret
        exact ⟨by rw [decide_eq_true (unhide HPQ)]; rfl, n, unhide HW⟩
  · have hl1 : ((p.length : Int) != (q.length : Int)) = true := by simp; omega
    have hne : p ≠ q := fun e => hl (by rw [e])
    rw [decide_eq_false hne]
    clear hl hne
    go_enter Try.func32, Try.ntmps32
    go_wp2_with fail
    go_ret
    exact ⟨rfl, 0, rfl⟩
end Go.Proofs.Ytlopdlcepmmjdaa
