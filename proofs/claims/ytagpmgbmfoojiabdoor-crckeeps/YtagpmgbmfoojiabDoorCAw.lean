import Derived.Test.YtagpmgbmfoojiabDoorCRU
import Derived.Lib.SlBytesConst
namespace Go.Proofs.YtagpmgbmfoojiabDoor
open Go.RowKit
set_option linter.unusedVariables false
set_option linter.unusedSimpArgs false

theorem upd_nine : upd 0 [49, 50, 51, 52, 53, 54, 55, 56, 57] = 3808858755 := by decide +kernel
theorem upd_bc : upd 3251651376 [98, 99] = 910901175 := by decide +kernel
theorem rd_mark {w : World} {g : Nat} {bs : List Nat} {cs : Array Value} {fr : Nat × Nat} (h : w.heap[g]? = some (.cells cs 5 fr)) (hc : cs = (bs.map u8).toArray) (hb : ∀ x ∈ bs, x < 256) (n : Nat) (hn : bs.length = n) (hl : n ≤ 140737488355328) :
    Rd w (.slice (some ⟨g, 0, none⟩) n n) bs := by
  subst hc; subst hn
  refine ⟨_, _, _, rfl, rfl, Nat.le_refl _, ⟨by omega, hl⟩, by simp, hb, fun _ => ⟨g, 0, rfl, fun i hi => ?_⟩⟩
  rw [cell_of_row w g (0 + i) _ 5 fr h]
  simp [List.getD_eq_getElem?_getD, List.getElem?_eq_getElem hi]

set_option maxRecDepth 100000 in
set_option maxHeartbeats 2000000 in
theorem cawake_any (w : World) (hT : Tab w) : Calls Tryd.prog 6 #[] w fun e w' => e = .returned (.bool true) ∧ Kept [] w w' := by
  have HT := hide hT
  clear hT
  have kc := fun (w : World) (C : Array Value) (n c : Nat) => Lib.run_convert_bytes_const (P := Tryd.prog) w 26 5 C n c Tryd.underlying26 Tryd.underlying5
  go_enter Tryd.func6, Tryd.ntmps6
  go_wp2_with fail
  refine (sum_any _ [49, 50, 51, 52, 53, 54, 55, 56, 57] _ (rd_mark (heap_alloc_new _ _) rfl (by decide) 9 rfl (by decide))).mono ?_
  rintro e w1 ⟨rfl, h1⟩
  have HK1 := hide (by rw [h1]; exact (Kept.refl [] w).alloc _ : Kept [] w w1)
  clear h1
  rw [upd_nine]
  go_wp2_with fail
  refine (update_any 3251651376 _ [98, 99] _ (by decide) (rd_mark (heap_alloc_new _ _) rfl (by decide) 2 rfl (by decide))).mono ?_
  rintro e w2 ⟨rfl, h2⟩
  have HK2 := hide (by rw [h2]; exact (unhide HK1).alloc _ : Kept [] w w2)
  clear h2 HK1
  rw [upd_bc]
  go_wp2_with fail
  refine (cjoin_any 1 2 0 w2 (by decide) (by decide) (by decide) ((unhide HT).kept (unhide HK2))).mono ?_
  rintro e w3 ⟨rfl, k3⟩
  have HK3 := hide ((unhide HK2).trans k3 (by simp))
  clear k3 HK2
  rw [show joi 1 2 (0 : Int).toNat = 3 by decide]
  go_wp2
  go_ret
  exact ⟨rfl, unhide HK3⟩
end Go.Proofs.YtagpmgbmfoojiabDoor
