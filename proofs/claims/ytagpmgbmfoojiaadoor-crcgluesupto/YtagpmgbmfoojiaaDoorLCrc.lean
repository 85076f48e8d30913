import Derived.Test.YtagpmgbmfoojiaaDoorCAw
namespace Go.Proofs.YtagpmgbmfoojiaaDoor
open Go.RowKit
set_option linter.unusedVariables false
set_option linter.unusedSimpArgs false

set_option maxRecDepth 100000 in
set_option maxHeartbeats 2000000 in
theorem crcUpdates_walk (c : Nat) (v : Value) (p : List Nat) (w : World) (hc : c < 4294967296) (h : Rd w v p) (hl : p.length ≤ 140737488355328) (hT : Tab w) :
    Calls Tryd.prog 3 #[.int .u32 c, v] w fun e w' => e = .returned (.bool true) ∧ Below w.heap.size w w' := by
  have H := hide h
  have HT := hide hT
  clear h hT
  go_enter Tryd.func3, Tryd.ntmps3
  go_wp2_with fail
  refine (cawake_any w (unhide HT)).mono ?_
  rintro e w1 ⟨rfl, k1⟩
  have HK1 := hide k1
  clear k1
  go_wp2_with fail
  refine (twin_any v p w1 ((unhide H).old (unhide HK1) (by simp))).mono ?_
  rintro e w2 ⟨rfl, k2, h2⟩
  have HK2 := hide ((unhide HK1).trans k2 (by simp))
  have H2 := hide (rd_fresh h2 (unhide H).byte hl)
  clear k2 h2
  go_wp2_with fail
  refine (update_any c _ p w2 hc (unhide H2)).mono ?_
  rintro e w3 ⟨rfl, rfl⟩
  go_wp2_with fail
  refine (rupdate_any c _ p w3 hc ((unhide H).old (unhide HK2) (by simp))).mono ?_
  rintro e w4 ⟨rfl, rfl⟩
  go_wp2_with fail
  refine (twin_any v p w4 ((unhide H).old (unhide HK2) (by simp))).mono ?_
  rintro e w5 ⟨rfl, k5, h5⟩
  have HK5 := hide ((unhide HK2).trans k5 (by simp))
  have H5 := hide (rd_fresh h5 (unhide H).byte hl)
  clear k5 h5
  go_wp2_with fail
  refine (sum_any _ p w5 (unhide H5)).mono ?_
  rintro e w6 ⟨rfl, rfl⟩
  go_wp2_with fail
  refine (rsum_any _ p w6 ((unhide H).old (unhide HK5) (by simp))).mono ?_
  rintro e w7 ⟨rfl, rfl⟩
  go_wp2
  go_ret
  exact ⟨rfl, (unhide HK5).below (Nat.le_refl _) (by simp)⟩

set_option maxRecDepth 100000 in
set_option maxHeartbeats 2000000 in
theorem crcJoins_walk (a b : Nat) (n : Int) (w : World) (ha : a < 4294967296) (hb : b < 4294967296) (hn : -9223372036854775808 ≤ n ∧ n ≤ 9223372036854775807) (hT : Tab w) :
    Calls Tryd.prog 4 #[.int .u32 a, .int .u32 b, .int .i64 n] w fun e w' => e = .returned (.bool true) ∧ Below w.heap.size w w' := by
  have HT := hide hT
  clear hT
  go_enter Tryd.func4, Tryd.ntmps4
  go_wp2_with fail
  refine (cawake_any w (unhide HT)).mono ?_
  rintro e w1 ⟨rfl, k1⟩
  have HK1 := hide k1
  clear k1
  go_wp2_with fail
  refine (cjoin_any a b n w1 ha hb hn ((unhide HT).kept (unhide HK1))).mono ?_
  rintro e w2 ⟨rfl, k2⟩
  have HK2 := hide ((unhide HK1).trans k2 (by simp))
  clear k2
  go_wp2_with fail
  refine (rjoin_any a b n w2 ha hb hn).mono ?_
  rintro e w3 ⟨rfl, rfl⟩
  go_wp2
  go_ret
  exact ⟨rfl, (unhide HK2).below (Nat.le_refl _) (by simp)⟩

set_option maxRecDepth 100000 in
set_option maxHeartbeats 2000000 in
theorem crcSplits_walk (c : Nat) (v : Value) (p : List Nat) (u : Value) (q : List Nat) (w : World) (hc : c < 4294967296) (h : Rd w v p) (hl : p.length ≤ 1048576) (g : Rd w u q) (hl2 : q.length ≤ 1048576) (hT : Tab w) :
    Calls Tryd.prog 5 #[.int .u32 c, v, u] w fun e w' => e = .returned (.bool true) ∧ Below w.heap.size w w' := by
  have H := hide h
  have G := hide g
  have HT := hide hT
  have hup := upd_lt hc h.byte
  have hap := upd_append c p q
  clear h g hT
  go_enter Tryd.func5, Tryd.ntmps5
  go_wp2_with fail
  refine (cawake_any w (unhide HT)).mono ?_
  rintro e w1 ⟨rfl, k1⟩
  have HK1 := hide k1
  clear k1
  go_wp2_with fail
  refine (update_any c _ [] w1 hc (Rd.nil w1)).mono ?_
  rintro e w2 ⟨rfl, rfl⟩
  rw [upd_nil]
  have hcc : ((c : Int) != c) = false := by simp
  go_wp2_with fail
  refine (update_any c _ p w2 hc ((unhide H).old (unhide HK1) (by simp))).mono ?_
  rintro e w3 ⟨rfl, rfl⟩
  go_wp2_with fail
  refine (update_any _ _ q w3 hup ((unhide G).old (unhide HK1) (by simp))).mono ?_
  rintro e w4 ⟨rfl, rfl⟩
  go_wp2_with fail
  refine (join_any _ _ p q w4 ((unhide H).old (unhide HK1) (by simp)) ((unhide G).old (unhide HK1) (by simp)) (by omega)).mono ?_
  rintro e w5 ⟨lv, rfl, h5, k5, _⟩
  have HK5 := hide ((unhide HK1).trans k5 (by simp))
  have H5 := hide h5
  clear k5 h5
  go_wp2_with fail
  refine (update_any c _ (p ++ q) w5 hc (unhide H5)).mono ?_
  rintro e w6 ⟨rfl, rfl⟩
  rw [hap]
  go_wp2
  go_ret
  exact ⟨rfl, (unhide HK5).below (Nat.le_refl _) (by simp)⟩

set_option maxRecDepth 100000 in
set_option maxHeartbeats 2000000 in
theorem crcGlues_walk (v : Value) (p : List Nat) (u : Value) (q : List Nat) (c : Nat) (w : World) (h : Rd w v p) (hl : p.length ≤ 1048576) (g : Rd w u q) (hl2 : q.length ≤ 1048576) (hc : c < 4294967296) (hT : Tab w) :
    Calls Tryd.prog 6 #[v, u, .int .u32 c] w fun e w' => e = .returned (.bool true) ∧ Below w.heap.size w w' := by
  have H := hide h
  have G := hide g
  have HT := hide hT
  have hup := upd_lt (c := 0) (by decide) h.byte
  have huq := upd_lt (c := 0) (by decide) g.byte
  have HA := hide (upd_append 0 p q)
  have HJ := hide (upd_join (upd 0 p) q)
  have HC := hide (upd_join c q)
  obtain ⟨ao, len, cap, rfl, rfl, g2, ⟨g3, g3'⟩, g4, g5, g6⟩ := g
  have hn : -9223372036854775808 ≤ (q.length : Int) ∧ (q.length : Int) ≤ 9223372036854775807 := by omega
  clear h hT g2 g3 g3' g4 g5 g6
  go_enter Tryd.func6, Tryd.ntmps6
  go_wp2_with fail
  refine (cawake_any w (unhide HT)).mono ?_
  rintro e w1 ⟨rfl, k1⟩
  have HK1 := hide k1
  clear k1
  go_wp2_with fail
  refine (join_any _ _ p q w1 ((unhide H).old (unhide HK1) (by simp)) ((unhide G).old (unhide HK1) (by simp)) (by omega)).mono ?_
  rintro e w2 ⟨lv, rfl, h5, k5, _⟩
  have HK5 := hide ((unhide HK1).trans k5 (by simp))
  have H5 := hide h5
  clear k5 h5
  go_wp2_with fail
  refine (sum_any _ p w2 ((unhide H).old (unhide HK5) (by simp))).mono ?_
  rintro e w3 ⟨rfl, rfl⟩
  go_wp2_with fail
  refine (sum_any _ q w3 ((unhide G).old (unhide HK5) (by simp))).mono ?_
  rintro e w4 ⟨rfl, rfl⟩
  go_wp2_with fail
  refine (cjoin_any _ _ _ w4 hup huq hn ((unhide HT).kept (unhide HK5))).mono ?_
  rintro e w5 ⟨rfl, k6⟩
  have HK6 := hide ((unhide HK5).trans k6 (by simp))
  have H6 := hide ((unhide H5).kept k6 (by simp))
  clear k6
  go_wp2_with fail
  refine (sum_any _ (p ++ q) w5 (unhide H6)).mono ?_
  rintro e w6 ⟨rfl, rfl⟩
  rw [unhide HA, unhide HJ]
  go_wp2_with fail
  refine (sum_any _ q w6 ((unhide G).old (unhide HK6) (by simp))).mono ?_
  rintro e w7 ⟨rfl, rfl⟩
  go_wp2_with fail
  refine (cjoin_any _ _ _ w7 hc huq hn ((unhide HT).kept (unhide HK6))).mono ?_
  rintro e w8 ⟨rfl, k8⟩
  have HK8 := hide ((unhide HK6).trans k8 (by simp))
  clear k8
  go_wp2_with fail
  refine (update_any c _ q w8 hc ((unhide G).old (unhide HK8) (by simp))).mono ?_
  rintro e w9 ⟨rfl, rfl⟩
  rw [unhide HC]
  go_wp2
  go_ret
  exact ⟨rfl, (unhide HK8).below (Nat.le_refl _) (by simp)⟩
end Go.Proofs.YtagpmgbmfoojiaaDoor
