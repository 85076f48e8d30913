import Derived.Test.YtckkalmhekfnhabGreatDoorWNew
import Derived.Test.YtckkalmhekfnhabGreatDoorCRU
import Derived.Test.YtckkalmhekfnhabGreatDoorFrm
import Derived.Test.YtckkalmhekfnhabGreatDoorRNum
namespace Go.Proofs.YtckkalmhekfnhabGreatDoor
open Go.RowKit
set_option linter.unusedVariables false
set_option linter.unusedSimpArgs false

set_option maxRecDepth 100000 in
set_option maxHeartbeats 1000000 in
theorem sumOf_any (pl : Nat) (v : Value) (p : List Nat) (w : World) (h : Rd w v p) (hpl : pl < 18446744073709551616) (hl : p.length ≤ 65535) :
    Calls Tryz.prog 63 #[.int .u64 pl, v] w fun e w' => e = .returned (.int .u32 (sumF pl p)) ∧ Kept [] w w' := by
  have H := hide h
  obtain ⟨a1, n1, c1, rfl, hn1, _⟩ := id h
  subst hn1
  clear h
  go_enter Tryz.func63, Tryz.ntmps63
  have HW0 := hide (Wn.start (Kept.refl [] w))
  go_wp2_with fail
  refine Calls.mono (wn_u32 p.length (unhide HW0) (by omega) (by simp)) ?_
  rintro e w1 ⟨rfl, v1, h1⟩
  have HW1 := hide h1
  clear h1 HW0
  go_wp2_with fail
  refine Calls.mono (wn_u64 pl (unhide HW1) (by simp [wide_len])) ?_
  rintro e w2 ⟨rfl, v2, h2⟩
  have HW2 := hide h2
  clear h2 HW1
  go_wp2_with fail
  refine Calls.mono (wn_bytes (unhide HW2) (by simp [wide_len])) ?_
  rintro e w3 ⟨v3, rfl, n3, k3⟩
  have HR3 := hide n3.1
  have HK3 := hide k3
  have HP3 := hide ((unhide H).old k3 (by simp))
  clear n3 k3 HW2
  go_wp2_with fail
  refine Calls.mono (sum_any v3 _ w3 (unhide HR3)) ?_
  rintro e w4 ⟨rfl, rfl⟩
  go_wp2_with fail
  refine Calls.mono (update_any _ _ p w4 (upd_lt (by decide) (unhide HR3).byte) (unhide HP3)) ?_
  rintro e w5 ⟨rfl, rfl⟩
  rw [← upd_append]
  go_wp2
  go_ret
  refine ⟨?_, unhide HK3⟩
  simp [sumF, txF, List.append_assoc]

theorem Wn.pass {w0 w w' : World} {b : Nat} {v : Value} {bs : List Nat} (h : Wn w0 w b v bs) (k : Kept [] w w') : Wn w0 w' b v bs :=
  ⟨h.at_.kept k (by simp) (by simp), h.new, h.hb, h.kept.trans k (by simp)⟩
/-- What Encode answers. -/
def encE (p : List Nat) : Nat := if 65535 < p.length then 2 else if p.length = 0 then 3 else 0
def encB (pl : Nat) (p : List Nat) : List Nat := if encE p = 0 then frB pl p else []

set_option maxRecDepth 100000 in
set_option maxHeartbeats 1000000 in
theorem encode_any (pl : Nat) (v : Value) (p : List Nat) (w : World) (h : Rd w v p) (hpl : pl < 18446744073709551616) :
    Calls Tryz.prog 34 #[.agg #[.int .u64 pl, v]] w fun e w' => ∃ v', e = .returned (.tuple #[v', .int .i64 (encE p)]) ∧ NewB w w' v' (encB pl p) ∧ Kept [] w w' := by
  have H := hide h
  obtain ⟨a1, n1, c1, rfl, hn1, _⟩ := id h
  subst hn1
  clear h
  by_cases h1 : 65535 < p.length
  · have h1' : (65535 : Int) < p.length := by omega
    have HE := hide (by simp [encE, h1] : encE p = 2)
    have HB := hide (by simp [encB, unhide HE] : encB pl p = [])
    rw [unhide HE, unhide HB]
    clear h1
    go_enter Tryz.func34, Tryz.ntmps34
    go_wp2
    go_ret2
    exact ⟨_, rfl, NewB.nil _ _, (Kept.refl [] w).alloc _⟩
  by_cases h0 : p.length = 0
  · have h1' : ¬ (65535 : Int) < p.length := by omega
    have h0' : (p.length : Int) = 0 := by omega
    have HE := hide (by simp [encE, h0] : encE p = 3)
    have HB := hide (by simp [encB, unhide HE] : encB pl p = [])
    rw [unhide HE, unhide HB]
    clear h1
    go_enter Tryz.func34, Tryz.ntmps34
    go_wp2
    go_ret2
    exact ⟨_, rfl, NewB.nil _ _, (Kept.refl [] w).alloc _⟩
  have h1' : ¬ (65535 : Int) < p.length := by omega
  have h0' : ¬ (p.length : Int) = 0 := by omega
  have HE := hide (by simp [encE, h0, h1] : encE p = 0)
  have HB := hide (by simp [encB, unhide HE] : encB pl p = frB pl p)
  rw [unhide HE, unhide HB]
  have hl : p.length ≤ 65535 := by omega
  clear h1 h0
  go_enter Tryz.func34, Tryz.ntmps34
  have HK0 := hide ((Kept.refl [] w).alloc (.cells #[.int .u64 (pl : Int), .slice a1 p.length c1] 82))
  have HC0 := hide (heap_alloc_new w (.cells #[.int .u64 (pl : Int), .slice a1 p.length c1] 82))
  go_wp2_with fail
  obtain ⟨W, hW⟩ : ∃ W, w.alloc (.cells #[.int .u64 (pl : Int), .slice a1 p.length c1] 82) = W := ⟨_, rfl⟩
  have hWs : W.heap.size = w.heap.size + 1 := by rw [← hW]; simp
  rw [hW] at HK0 HC0 ⊢
  clear hW
  have HW0 := hide (Wn.start (Kept.refl [] W))
  rw [hWs] at HW0
  refine Calls.mono (wn_u8 245 (unhide HW0) (by decide) (by simp)) ?_
  rintro e w1 ⟨rfl, v1, h1⟩
  have HW1 := hide h1
  have c1a : w1.cell? ⟨w.heap.size, 1, none⟩ = some (.slice a1 p.length c1) := h1.kept.cell (by rw [cell_of_row _ _ _ _ _ _ (unhide HC0)]; rfl) (by simp)
  clear h1 HW0
  go_wp2_with fail
  refine Calls.mono (wn_u32 p.length (unhide HW1) (by omega) (by simp [wide_len])) ?_
  rintro e w2 ⟨rfl, v2, h2⟩
  have HW2 := hide h2
  have c2 : w2.cell? ⟨w.heap.size, 0, none⟩ = some (.int .u64 pl) := h2.kept.cell (by rw [cell_of_row _ _ _ _ _ _ (unhide HC0)]; rfl) (by simp)
  clear h2 HW1 c1a
  go_wp2_with fail
  refine Calls.mono (wn_u64 pl (unhide HW2) (by simp [wide_len])) ?_
  rintro e w3 ⟨rfl, v3, h3⟩
  have HW3 := hide h3
  have c3 : w3.cell? ⟨w.heap.size, 0, none⟩ = some (.int .u64 pl) := h3.kept.cell (by rw [cell_of_row _ _ _ _ _ _ (unhide HC0)]; rfl) (by simp)
  have c3' : w3.cell? ⟨w.heap.size, 1, none⟩ = some (.slice a1 p.length c1) := h3.kept.cell (by rw [cell_of_row _ _ _ _ _ _ (unhide HC0)]; rfl) (by simp)
  clear h3 HW2 c2
  go_wp2_with fail
  refine Calls.mono (sumOf_any pl _ p w3 ((unhide H).old ((unhide HK0).trans (unhide HW3).kept (by simp)) (by simp)) hpl hl) ?_
  rintro e w4 ⟨rfl, k4⟩
  have HW4 := hide ((unhide HW3).pass k4)
  clear k4 HW3 c3 c3'
  go_wp2_with fail
  refine Calls.mono (wn_u32 (sumF pl p) (unhide HW4) (sumF_lt (unhide H).byte) (by simp [wide_len])) ?_
  rintro e w5 ⟨rfl, v5, h5⟩
  have HW5 := hide h5
  have c5' : w5.cell? ⟨w.heap.size, 1, none⟩ = some (.slice a1 p.length c1) := h5.kept.cell (by rw [cell_of_row _ _ _ _ _ _ (unhide HC0)]; rfl) (by simp)
  clear h5 HW4
  go_wp2_with fail
  refine Calls.mono (wn_raw (unhide HW5) ((unhide H).old ((unhide HK0).trans (unhide HW5).kept (by simp)) (by simp)) (by simp [wide_len]; omega)) ?_
  rintro e w6 ⟨rfl, v6, h6⟩
  have HW6 := hide h6
  clear h6 HW5 c5'
  go_wp2_with fail
  refine Calls.mono (wn_u8 95 (unhide HW6) (by decide) (by simp [wide_len]; omega)) ?_
  rintro e w7 ⟨rfl, v7, h7⟩
  have HW7 := hide h7
  clear h7 HW6
  go_wp2_with fail
  refine Calls.mono (wn_bytes (unhide HW7) (by simp [wide_len]; omega)) ?_
  rintro e w8 ⟨v8, rfl, n8, k8⟩
  have HN8 := hide n8
  have HK8 := hide ((unhide HK0).trans k8 (by simp))
  clear n8 k8
  go_wp2
  go_ret2
  refine ⟨_, rfl, ?_, unhide HK8⟩
  have e9 : [] ++ wide 245 1 ++ wide p.length 4 ++ wide pl 8 ++ wide (sumF pl p) 4 ++ p ++ wide 95 1 = frB pl p := by
    simp [frB, wide, List.append_assoc]
  rw [e9] at HN8
  exact (unhide HN8).weak (unhide HK0).size
end Go.Proofs.YtckkalmhekfnhabGreatDoor
