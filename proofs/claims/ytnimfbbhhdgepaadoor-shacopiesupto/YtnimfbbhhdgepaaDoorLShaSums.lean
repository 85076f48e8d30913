import Derived.Test.YtnimfbbhhdgepaaDoorSAw
import Derived.Test.YtnimfbbhhdgepaaDoorRSum
import Derived.Test.YtnimfbbhhdgepaaDoorSTwin
namespace Go.Proofs.YtnimfbbhhdgepaaDoor
open Go.RowKit
set_option linter.unusedVariables false
set_option linter.unusedSimpArgs false

theorem Tabs.k {w w' : World} (h : Tabs w) (k : Kept [] w w') : Tabs w' := h.kept k (by simp) (by simp)

set_option maxRecDepth 100000 in
set_option maxHeartbeats 1000000 in
theorem shaSums_walk (v : Value) (p : List Nat) (w : World) (h : Rd w v p) (hl : p.length ≤ 140737488355328) (hT : Tabs w) :
    Calls Tryd.prog 3 #[v] w fun e w' => e = .returned (.bool true) ∧ Below w.heap.size w w' := by
  have H := hide h
  have HT := hide hT
  clear h hT
  go_enter Tryd.func3, Tryd.ntmps3
  go_wp2_with fail
  refine (shaAwake_any w (unhide HT)).mono ?_
  rintro e w1 ⟨rfl, k1⟩
  have HK1 := hide k1
  clear k1
  go_wp2_with fail
  refine (ltwin_any v p w1 ((unhide H).old (unhide HK1) (by simp))).mono ?_
  rintro e w2 ⟨rfl, k2, h2⟩
  have HK2 := hide ((unhide HK1).trans k2 (by simp))
  have H2 := hide (rd_fresh h2 (unhide H).byte hl)
  clear k2 h2
  go_wp2_with fail
  refine (sum256_any _ p w2 (unhide H2) hl ((unhide HT).k (unhide HK2))).mono ?_
  rintro e w3 ⟨rfl, k3⟩
  have HK3 := hide ((unhide HK2).trans k3 (by simp))
  clear k3
  go_wp2_with fail
  refine (refsum_any v p w3 ((unhide H).old (unhide HK3) (by simp))).mono ?_
  rintro e w4 ⟨rfl, k4⟩
  have HK4 := hide ((unhide HK3).trans k4 (by simp))
  clear k4
  have hd := hash_len p
  have he := fun W => row_eq W (hash p) (hash p) hd hd
  simp only [decide_true] at he
  go_wp2
  go_ret
  exact ⟨rfl, (unhide HK4).below (Nat.le_refl _) (by simp)⟩
end Go.Proofs.YtnimfbbhhdgepaaDoor
