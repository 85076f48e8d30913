import Derived.Test.YtjiijfcfapfmeaaDoorSAw
namespace Go.Proofs.YtjiijfcfapfmeaaDoor
open Go.RowKit
set_option linter.unusedVariables false
set_option linter.unusedSimpArgs false

set_option maxRecDepth 100000 in
set_option maxHeartbeats 1000000 in
theorem scopy_any (g : Nat) (t : List Nat) (w : World) (hst : St w g t) :
    Calls Tryd.prog 8 #[.pointer (some ⟨g, 0, none⟩)] w fun e w' => e = .returned (.pointer (some ⟨w.heap.size, 0, none⟩)) ∧ St w' w.heap.size t ∧ Kept [] w w' := by
  obtain ⟨ws, bl, hs, hw, hb⟩ := hst
  have HSA := hide hs
  have HSZ := hide (by rw [List.size_toArray, stc_len _ hs.2.1.1 hs.2.2.1]; exact Tryd.size_state : (Tryd.prog.info? 37).map (·.size) = some (stc ws bl t.length).toArray.size)
  have HWW := hide hw
  have HBB := hide hb
  clear hs hw hb
  have hzs := zero_st
  go_enter Tryd.func8, Tryd.ntmps8
  go_wp2_with (first
    | (refine wpList_load_row rfl 37 _ rfl g rfl _ (stc ws bl t.length).toArray (0, 0) _ (unhide HSA).1 Tryd.underlying37 rfl (unhide HSZ) ?_)
    | (refine wpList_store_row rfl 37 _ _ rfl w.heap.size (stc ws bl t.length).toArray rfl rfl _ zst (heap_alloc_new _ _) (unhide HSZ) (by rw [zst_size, List.size_toArray, stc_len _ (unhide HSA).2.1.1 (unhide HSA).2.2.1]) (stc_one _ _ _) ?_))
  go_ret
  exact ⟨rfl, ⟨ws, bl, ⟨setRow_heap _ _ _ _ _ _ (heap_alloc_new _ _), (unhide HSA).2⟩, unhide HWW, unhide HBB⟩, ((Kept.refl [] w).alloc _).setRow (Or.inr (Nat.le_refl _)) _⟩
end Go.Proofs.YtjiijfcfapfmeaaDoor
