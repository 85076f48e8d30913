import Derived.Test.YtnimfbbhhdgepabDoorRdSub
import Derived.Test.YtnimfbbhhdgepabDoorSSame
import Derived.Test.YtnimfbbhhdgepabDoorQKeep
import Derived.Test.YtnimfbbhhdgepabDoorSPad
import Derived.Test.YtnimfbbhhdgepabDoorSSum
namespace Go.Proofs.YtnimfbbhhdgepabDoor
open Go.RowKit Go.BigFrame
set_option linter.unusedVariables false
set_option linter.unusedSimpArgs false

/-- The mark at the place j; the marks behind n bytes, the first k of them. -/
def markN (j : Nat) : Nat := (165 + 3 * j) % 256
def mks (n k : Nat) : List Nat := (List.range k).map fun i => markN (n + i)
theorem mks_len (n k : Nat) : (mks n k).length = k := by simp [mks]
theorem mks_succ (n k : Nat) : mks n (k + 1) = mks n k ++ [markN (n + k)] := by simp [mks, List.range_succ]
theorem mks_byte (n k : Nat) : ∀ x ∈ mks n k, x < 256 := by
  intro x hx; simp [mks] at hx; obtain ⟨j, _, rfl⟩ := hx; exact Nat.mod_lt _ (by decide)
def mk (p : List Nat) : List Nat := p ++ mks p.length 96
theorem mk_len (p : List Nat) : (mk p).length = p.length + 96 := by simp [mk, mks_len]
def mkK (p : List Nat) (k : Nat) : List Nat := p ++ (mks p.length k ++ List.replicate (96 - k) 0)
theorem mkK_len (p : List Nat) (k : Nat) (h : k ≤ 96) : (mkK p k).length = p.length + 96 := by simp [mkK, mks_len]; omega
theorem mkK_full (p : List Nat) : mkK p 96 = mk p := by simp [mkK, mk]
theorem mkK_succ (p : List Nat) (k : Nat) (h : k < 96) : (mkK p k).set (p.length + k) (markN (p.length + k)) = mkK p (k + 1) := by
  unfold mkK
  rw [List.set_append_right _ _ (by omega), show p.length + k - p.length = k by omega, List.set_append_right _ _ (by rw [mks_len]; omega), mks_len, Nat.sub_self, mks_succ, List.append_assoc]
  congr 2
  rw [show 96 - k = (96 - (k + 1)) + 1 by omega, List.replicate_succ]
  rfl

set_option maxRecDepth 100000 in
set_option maxHeartbeats 1000000 in
theorem marked_any (v : Value) (p : List Nat) (w : World) (h : Rd w v p) (hl : p.length ≤ 140737488351232) :
    Calls Tryd.prog 7 #[v] w fun e w' => e = .returned (.tuple #[.slice (some ⟨w.heap.size, 0, none⟩) p.length (p.length + 96), .slice (some ⟨w.heap.size, 0, none⟩) (p.length + 96) (p.length + 96)]) ∧ w'.heap[w.heap.size]? = some (.cells (brow (mk p)) 5 (0, 0)) ∧ Kept [] w w' := by
  have hk : Rd (w.alloc (.cells (zeros (p.length + 96)).toArray 5)) v p := h.kept ((Kept.refl [] w).alloc _) (by simp)
  obtain ⟨ao, len, cap, rfl, hlen, h2, ⟨h3, h3'⟩, h4, h5, h6⟩ := h
  subst hlen
  have hmk0 := run_make_row' (P := Tryd.prog) 22 5 (.int .u8 0) 1 Tryd.underlying22 Tryd.info5 rfl .i64 .i64 (p.length + 96) (by omega) (by omega)
  simp only [madeZeros] at hmk0
  have hmk : ∀ W : World, (Instr.makeSlice 22 (.int .i64 ((p.length : Int) + 96)) (.int .i64 ((p.length : Int) + 96))).run Tryd.prog W = .ok (.slice (some ⟨W.heap.size, 0, none⟩) (p.length + 96) (p.length + 96)) (W.alloc (.cells (zeros (p.length + 96)).toArray 5)) := fun W => by
    have := hmk0 W
    rw [show (((p.length + 96 : Nat)) : Int) = (p.length : Int) + 96 by omega] at this
    exact this
  obtain ⟨w2, hrun, hg, hw⟩ := run_copy_head 22 22 3 5 Tryd.underlying22 Tryd.size5 _ w.heap.size (p.length + 96) (p.length + 96) cap ao p (zeros (p.length + 96)) 5 (heap_alloc_new w _) hk (by omega) (by simp [zeros])
  have HG := hide (by
    rw [hg]; congr 3
    rw [zeros_u8, ← List.map_drop, ← List.map_append]
    unfold mkK; simp [mks] : w2.heap[w.heap.size]? = some (.cells (brow (mkK p 0)) 5 (0, 0)))
  have HW := hide (((Kept.refl [] w).alloc _).trans hw (by simp))
  clear hg hw hk h6 h4 h5 hmk0
  go_enter Tryd.func7, Tryd.ntmps7
  go_wp2
  go_loopw [5] (fun t5 wr => ∃ (k : Nat), k ≤ 96 ∧ t5 = .int .i64 ((p.length + k : Nat) : Int) ∧ Hid (wr.heap[w.heap.size]? = some (.cells (brow (mkK p k)) 5 (0, 0))) ∧ Hid (Kept [] w wr)) (fun t _ => p.length + 96 - (intOf t).toNat)
  case atStart => exact ⟨0, by omega, rfl, HG, HW⟩
  case round =>
    clear HG HW
    obtain ⟨k, hk, rfl, HG, HW⟩ := hrel
    obtain ⟨j, hj⟩ : ∃ j, p.length + k = j := ⟨_, rfl⟩
    rw [hj]
    by_cases hlt : k < 96
    · have hlt' : (j : Int) < (p.length : Int) + 96 := by omega
      have hjb : (j : Int) ≤ 140737488355328 := by omega
      have HS := hide (by rw [← hj]; exact mkK_succ p k hlt : (mkK p k).set j (markN j) = mkK p (k + 1))
      have cj := brow_cell (unhide HG) j (by rw [mkK_len p k hk]; omega)
      have fr : wr.frozen? ⟨w.heap.size, j, none⟩ = false := frozen_of_row _ _ _ _ _ (unhide HG)
      have HV := hide (by unfold markN; simp : ((165 : Int) + 3 * (j : Int)) % 256 = ((markN j : Nat) : Int))
      have hvv : ((165 : Int) + 3 * (j : Int)) % 256 = ((markN j : Nat) : Int) := unhide HV
      have HN := hide (by have := brow_setCell (unhide HG) j (markN j); rw [unhide HS] at this; exact this)
      have HKN := hide ((unhide HW).setCell (p := ⟨w.heap.size, j, none⟩) (Or.inr (by simp)) (Go.Proofs.YtnimfbbhhdgepabDoor.u8 (markN j)))
      generalize markN j = z at HS HV hvv HN HKN
      have hj1 : (j : Int) + 1 = ((p.length + (k + 1) : Nat) : Int) := by omega
      have Hj1 := hide hj1
      clear hj1
      go_wp2
      go_roundw
      case rel => exact ⟨k + 1, by omega, by rw [unhide Hj1], HN, HKN⟩
      case measure => simp [intOf]; omega
    · have hk96 : k = 96 := by omega
      subst hk96
      have hlt' : ¬ (j : Int) < (p.length : Int) + 96 := by omega
      rw [mkK_full] at HG
      have hpc : (p.length : Int) ≤ (p.length : Int) + 96 := by omega
      go_wp2
      go_ret2
      exact ⟨rfl, unhide HG, unhide HW⟩

set_option maxRecDepth 100000 in
set_option maxHeartbeats 1000000 in
theorem untouched_any (u v : Value) (p : List Nat) (w : World) (h : Rd w u p) (g : Rd w v (mk p)) (hl : p.length ≤ 140737488351232) :
    Calls Tryd.prog 12 #[u, v] w fun e w' => e = .returned (.bool true) ∧ ∃ n, w' = w.drewN n := by
  obtain ⟨ao, len, cap, rfl, hlen, h2, ⟨h3, h3'⟩, h4, h5, h6⟩ := h
  subst hlen
  obtain ⟨bo, len', cap', rfl, hlen', g2, ⟨g3, g3'⟩, g4, g5, g6⟩ := g
  rw [mk_len] at hlen'
  subst hlen'
  obtain ⟨b, o, rfl, hcell⟩ := g6 (by omega)
  have H6 := hide h6
  have HC := hide hcell
  have H5 := hide h5
  clear h4 h5 h6 g4 g5 g6 hcell
  go_enter Tryd.func12, Tryd.ntmps12
  go_wp2_with fail
  go_loopw [5] (fun t5 wr => ∃ (j n : Nat), j ≤ p.length + 96 ∧ t5 = .int .i64 j ∧ wr = w.drewN n) (fun t _ => p.length + 96 - (intOf t).toNat)
  case atStart => exact ⟨0, 0, by omega, rfl, rfl⟩
  case round =>
    obtain ⟨j, n, hj, rfl, rfl⟩ := hrel
    by_cases hlt : j < p.length + 96
    · have hlt' : (j : Int) < (p.length : Int) + 96 := by omega
      have cj := unhide HC j hlt
      by_cases hin : j < p.length
      · have hin' : (j : Int) < p.length := by omega
        have hin2 : ¬ (p.length : Int) ≤ (j : Int) := by omega
        have hin3 : ¬ p.length ≤ j := by omega
        obtain ⟨b2, o2, rfl, hc2⟩ := unhide H6 (by omega)
        have c2 := hc2 j hin
        have e : (mk p).getD j 0 = p.getD j 0 := by unfold mk; rw [List.getD_eq_getElem?_getD, List.getElem?_append_left hin, ← List.getD_eq_getElem?_getD]
        rw [e] at cj
        generalize p.getD j 0 = x at cj c2
        clear e hc2
        go_wp2_with fail
        go_quiet (fail)
        go_wp2
        go_roundw
        case rel => exact ⟨j + 1, _, by omega, by go_num, rfl⟩
        case measure => simp [intOf]; omega
      · have hin' : ¬ (j : Int) < p.length := by omega
        have hin2 : (p.length : Int) ≤ (j : Int) := by omega
        have hin3 : p.length ≤ j := by omega
        have hjb : (j : Int) ≤ 140737488355328 := by omega
        have e : (mk p).getD j 0 = markN j := by
          unfold mk mks
          rw [List.getD_eq_getElem?_getD, List.getElem?_append_right (by omega), List.getElem?_map, List.getElem?_range (by omega)]
          simp; congr 1; omega
        rw [e] at cj
        have hvv : ((165 : Int) + 3 * (j : Int)) % 256 = ((markN j : Nat) : Int) := by unfold markN; simp
        generalize markN j = z at cj hvv
        clear e
        go_wp2_with fail
        go_quiet (fail)
        go_wp2
        go_roundw
        case rel => exact ⟨j + 1, _, by omega, by go_num, rfl⟩
        case measure => simp [intOf]; omega
    · have hlt' : ¬ (j : Int) < (p.length : Int) + 96 := by omega
      go_wp2
      go_ret
      exact ⟨rfl, n, rfl⟩
end Go.Proofs.YtnimfbbhhdgepabDoor
