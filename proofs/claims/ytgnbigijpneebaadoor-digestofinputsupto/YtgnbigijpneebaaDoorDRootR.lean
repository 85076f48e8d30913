import Derived.Test.YtgnbigijpneebaaDoorDBrR
namespace Go.Proofs.YtgnbigijpneebaaDoor
open Go.RowKit Go.BigFrame
set_option linter.unusedVariables false
set_option linter.unusedSimpArgs false

set_option maxRecDepth 100000 in
set_option maxHeartbeats 1000000 in
theorem refRootInput_any (k : Nat) (s : Nat) (l m : List Nat) (w : World) (hk : 1 ≤ k ∧ k ≤ 32) (hs : s < 18446744073709551616) (hl : l.length = 32) (hm : m.length = 32) (hlb : ∀ x ∈ l, x < 256) (hmb : ∀ x ∈ m, x < 256) :
    Calls Tryd.prog 44 #[.int .i64 k, .agg (rootC s l m).toArray] w fun e w' => ∃ v, e = .returned v ∧ Rd w' v (rootB k s l m) ∧ Kept [] w w' := by
  have HB := hide hlb
  have HB2 := hide hmb
  clear hlb hmb
  go_enter Tryd.func44, Tryd.ntmps44
  have HR := hide (range_left (w.alloc (.cells (rootC s l m).toArray 32)) w.heap.size (l.map u8) (m.map u8) 32 (0, 0) _ (heap_alloc_new w (.cells (rootC s l m).toArray 32)))
  rw [List.length_map, hl] at HR
  have hk' : (k : Int) ≤ 32 := by omega
  have HK0 := hide ((Kept.refl [] w).alloc (.cells (rootC s l m).toArray 32))
  have hc0 : (w.alloc (.cells (rootC s l m).toArray 32)).cell? ⟨w.heap.size, 0, none⟩ = some (.int .u64 (s : Int)) := by rw [cell_of_row _ _ _ _ _ _ (heap_alloc_new w (.cells (rootC s l m).toArray 32))]; rfl
  go_wp2_with fail
  obtain ⟨W, hW⟩ : ∃ W, w.alloc (.cells (rootC s l m).toArray 32) = W := ⟨_, rfl⟩
  rw [hW] at HR HK0 hc0 ⊢
  clear hW
  have HA := hide (rd_dig (k := k) (unhide HR).1 hl (unhide HB) (by omega))
  have HC := hide (rd_dig (k := k) (unhide HR).2 hm (unhide HB2) (by omega))
  have HTL := hide (by simp [hl]; omega : (l.take k).length + (m.take k).length ≤ 64)
  have HC0 := hide (show W.drew.cell? ⟨w.heap.size, 0, none⟩ = some (.int .u64 (s : Int)) from hc0)
  have HC1 := hide (((Kept.refl [] W).alloc (.cells #[.int .u8 6] 5)).drew.cell hc0 (by simp))
  go_region_held3 (fun w' => w'.cell? ⟨w.heap.size, 0, none⟩ = some (.int .u64 (s : Int))) (go_keep) (first
    | (go_at_call 85; refine (refWide_any s 8 _ hs (by decide)).mono ?_; rintro e w3 ⟨rfl, k3, g3⟩; have HR3 := hide (rd_fresh g3 (wide_byte s 8) (by simp [wide_len])); rw [wide_len] at HR3; (try (rw [show (W.alloc (.cells #[.int .u8 6] 5)).drew.heap.size = W.heap.size + 1 from Array.size_push _] at HR3)); (try (have HL1 := hide ((rd_lit1 [6] (show (W.alloc (.cells #[.int .u8 6] 5)).drew.heap[W.heap.size]? = _ from heap_alloc_new W _) rfl (by decide) 1 rfl (by decide)).old k3 (by simp)))); first | (have c3 := k3.cell (unhide HC1) (by simp); have K3 := ((Kept.refl [] W).alloc _).drew.trans k3 (by simp); have HK3 := hide K3; have HA3 := hide ((unhide HA).old K3 (by simp)); have HB3 := hide ((unhide HC).old K3 (by simp)); clear k3 g3 K3) | (have c3 := k3.cell (unhide HC0) (by simp); have K3 := (Kept.refl [] W).drew.trans k3 (by simp); have HK3 := hide K3; have HA3 := hide ((unhide HA).old K3 (by simp)); have HB3 := hide ((unhide HC).old K3 (by simp)); clear k3 g3 K3))
    | (go_at_call 80; refine (join_any _ _ [6] (wide s 8) _ (by exact unhide HL1) (by exact unhide HR3) (by simp [wide_len])).mono ?_; rintro e w4 ⟨v4, rfl, r4, k4, _⟩; have c4 := k4.cell c3 (by simp); have HR4 := hide r4; have HK4 := hide ((unhide HK3).trans k4 (by simp)); have HA4 := hide ((unhide HA3).old k4 (by simp)); have HB4 := hide ((unhide HB3).old k4 (by simp)); clear r4 k4)
    | (go_at_call 80; refine (join_any _ _ [6] (wide s 8) _ (by exact rd_lit1 [6] (heap_alloc_new w3 _) rfl (by decide) 1 rfl (by decide)) (by exact (unhide HR3).old ((Kept.refl [] w3).alloc _) (by simp)) (by simp [wide_len])).mono ?_; rintro e w4 ⟨v4, rfl, r4, k4', _⟩; have k4 := ((Kept.refl [] w3).alloc _).trans k4' (by simp); have c4 := k4.cell c3 (by simp); have HR4 := hide r4; have HK4 := hide ((unhide HK3).trans k4 (by simp)); have HA4 := hide ((unhide HA3).old k4 (by simp)); have HB4 := hide ((unhide HB3).old k4 (by simp)); clear r4 k4 k4')
    | (go_at_call 80; refine (join_any _ _ (l.take k) (m.take k) _ (by exact unhide HA4) (by exact unhide HB4) (by have := unhide HTL; omega)).mono ?_; rintro e w5 ⟨v5, rfl, r5, k5, _⟩; have c5 := k5.cell c4 (by simp); have HR5 := hide r5; have HK5 := hide ((unhide HK4).trans k5 (by simp)); have HL5 := hide ((unhide HR4).old k5 (by simp)); clear r5 k5)
    | (go_at_call 80; refine (join_any _ _ ([6] ++ wide s 8) (l.take k ++ m.take k) _ (by exact unhide HL5) (by exact unhide HR5) (by have := unhide HTL; simp only [List.length_append, List.length_cons, List.length_nil, wide_len]; omega)).mono ?_; rintro e w6 ⟨v6, rfl, r6, k6, _⟩; have c6 := k6.cell c5 (by simp); have HR6 := hide r6; have HK6 := hide ((unhide HK0).trans ((unhide HK5).trans k6 (by simp)) (by simp)); clear r6 k6))
  all_goals
    go_wp2
    go_ret
    exact ⟨_, rfl, by simpa [rootB] using unhide HR6, unhide HK6⟩
end Go.Proofs.YtgnbigijpneebaaDoor
