import Derived.Test.YtbbjbpjpejekgaaDoorDSum
import Derived.Test.YtbbjbpjpejekgaaDoorWNew
namespace Go.Proofs.YtbbjbpjpejekgaaDoor
open Go.RowKit Go.BigFrame
set_option linter.unusedVariables false
set_option linter.unusedSimpArgs false

set_option maxRecDepth 100000 in
set_option maxHeartbeats 1000000 in
theorem tagged_any (tag : Nat) (v : Value) (ps : List (List Nat)) (w : World) (ht : tag < 256) (hv : RdL w v ps) (hl : ps.flatten.length ≤ 140737488351232) :
    Calls Tryd.prog 59 #[.int .u8 tag, v] w fun e w' => ∃ g, e = .returned (.slice (some ⟨g, 0, none⟩) (ps.flatten.length + 1) (ps.flatten.length + 1)) ∧ w.heap.size ≤ g ∧ w'.heap[g]? = some (.cells ((tag :: ps.flatten).map u8).toArray 5 (0, 0)) ∧ Kept [] w w' := by
  obtain ⟨ao, len, cap, vs, rfl, h1, h2', h3, h4, h5, h6⟩ := hv
  have H5 := hide h5
  have H6 := hide h6
  clear h5 h6
  subst h2'
  have HW := hide (WrAt.new w)
  go_enter Tryd.func59, Tryd.ntmps59
  go_wp2_with fail
  refine Calls.mono (wu8_any w.heap.size _ [] tag _ (unhide HW) ht (by simp)) ?_
  rintro e w1 ⟨rfl, v1, hw1, g1⟩
  have hwide : wide tag 1 = [tag] := by simp [wide]; omega
  rw [hwide, List.nil_append] at hw1
  have HW1 := hide hw1
  have HV1 := hide (g1.fresh (B := w.heap.size) (by intro g hg; simp [Value.ownBlock] at hg) (by simp))
  have HK1 := hide (g1.keptNil ((Kept.refl [] w).alloc _) (by omega) (by intro g hg; simp [Value.ownBlock] at hg))
  clear hw1 g1 hwide
  go_wp2_with fail
  go_loopw [12] (fun t12 wr => ∃ (i : Nat) (vv : Value), i ≤ ps.length ∧ t12 = .int .i64 i ∧ Hid (WrAt wr w.heap.size vv (tag :: (ps.take i).flatten)) ∧ Hid (∀ g, vv.ownBlock = some g → w.heap.size ≤ g) ∧ Hid (Kept [] w wr)) (fun t _ => ps.length - (intOf t).toNat)
  case atStart => exact ⟨0, v1, Nat.zero_le _, rfl, HW1, HV1, HK1⟩
  case round =>
    clear HW1 HV1 HK1
    obtain ⟨i, vv, hi, rfl, HWr, HVr, HK⟩ := hrel
    by_cases hlt : i < ps.length
    · have hlt' : (i : Int) < ps.length := by omega
      obtain ⟨b, o, rfl, hcell⟩ := unhide H5 (by omega)
      have ci := (unhide HK).cell (hcell i hlt) (by simp)
      have HR := hide ((unhide H6 i hlt).old (unhide HK) (by simp))
      have HFS := hide (flat_snoc ps i hlt)
      have HFL := hide (flat_le ps (i + 1))
      clear hcell
      generalize vs.getD i undef = vi at ci HR
      generalize ps.getD i [] = pi at HR HFS
      go_wp2_with fail
      refine Calls.mono (wraw_any w.heap.size vv vi _ pi wr (unhide HWr) (unhide HR) (by have h8 := unhide HFL; rw [unhide HFS, List.length_append] at h8; rw [List.length_cons]; omega)) ?_
      rintro e w4 ⟨rfl, v4, hw4, g4⟩
      rw [List.cons_append, ← unhide HFS] at hw4
      have HW4 := hide hw4
      have HV4 := hide (g4.fresh (unhide HVr) (unhide HK).size)
      have HK4 := hide (g4.keptNil (unhide HK) (Nat.le_refl _) (unhide HVr))
      clear hw4 g4
      go_wp2
      go_roundw
      case rel => exact ⟨i + 1, v4, by omega, by go_num, HW4, HV4, HK4⟩
      case measure => simp [intOf]; omega
    · have hlt' : ¬ (i : Int) < ps.length := by omega
      have hie : i = ps.length := by omega
      subst hie
      rw [List.take_length] at HWr
      obtain ⟨F, hF⟩ : ∃ F, ps.flatten = F := ⟨_, rfl⟩
      rw [hF] at HWr hl
      have HF := hide hF
      clear hF
      go_wp2_with fail
      refine Calls.mono (wbytes_any w.heap.size vv _ wr (unhide HWr) (by rw [List.length_cons]; omega)) ?_
      rintro e w5 ⟨rfl, k5, h5⟩
      have HR5 := hide h5
      have HK5 := hide ((unhide HK).trans k5 (by simp))
      clear k5 h5
      go_wp2
      go_ret
      exact ⟨wr.heap.size, by rw [unhide HF]; rfl, (unhide HK).size, by rw [unhide HF]; exact unhide HR5, unhide HK5⟩

theorem RdL.nil (w : World) : RdL w (.slice none 0 0) [] := ⟨none, 0, 0, [], rfl, rfl, rfl, Nat.le_refl _, by omega, fun h => by omega, fun i h => by omega⟩
/-- One list. -/
theorem RdL.one {w : World} {g : Nat} {v : Value} {p : List Nat} {t : TypeId} {fr : Nat × Nat} (h : w.heap[g]? = some (.cells #[v] t fr)) (hr : Rd w v p) : RdL w (.slice (some ⟨g, 0, none⟩) 1 1) [p] := by
  refine ⟨_, 1, 1, [v], rfl, rfl, rfl, Nat.le_refl _, by omega, fun _ => ⟨g, 0, rfl, fun i hi => ?_⟩, fun i hi => ?_⟩
  · have : i = 0 := by omega
    subst this
    rw [cell_of_row _ _ _ _ _ _ h]; rfl
  · have : i = 0 := by omega
    subst this
    exact hr

set_option maxRecDepth 100000 in
set_option maxHeartbeats 1000000 in
theorem nomap_any (z : Int) (w : World) (hz : -9223372036854775808 ≤ z ∧ z ≤ 9223372036854775807) (hw : widthB z = true) (hT : Tabs w) :
    Calls Tryd.prog 20 #[.int .i64 z] w fun e w' => e = .returned (.tuple #[.agg (brow (cutL z.toNat (hash [5]))), .int .i64 0]) ∧ Kept [] w w' := by
  have HT := hide hT
  clear hT
  have hcl := cutL_len z.toNat (hash [5]) (by have h9 : 1 ≤ z ∧ z ≤ 32 := (by simpa [widthB] using hw); omega) (hash_len [5])
  go_enter Tryd.func20, Tryd.ntmps20
  go_wp2_with fail
  rw [zb32]
  refine Calls.mono (tagged_any 5 _ [] _ (by decide) (RdL.nil _) (by simp)) ?_
  rintro e w1 ⟨g, rfl, hg, h1, k1⟩
  have HR1 := hide (rd_fresh h1 (by simp) (by simp))
  have HZ1 := hide (k1.heap (heap_alloc_new w (.cells (zb 32) 26)) (by simp))
  have HK1 := hide (((Kept.refl [] w).alloc (.cells (zb 32) 26)).trans k1 (by simp))
  clear h1 k1
  go_wp2_with fail
  refine Calls.mono (dsum_any z _ [[5]] _ hz (RdL.one (heap_alloc_new _ _) ((unhide HR1).old ((Kept.refl [] w1).alloc _) (by simp))) (by simp) ((unhide HT).k ((unhide HK1).alloc _)) hw) ?_
  rintro e w2 ⟨rfl, k2⟩
  rw [show ([[5]] : List (List Nat)).flatten = [5] from rfl]
  have HZ2 := hide (k2.heap ((Kept.refl [] w1).alloc (.cells #[.slice (some ⟨g, 0, none⟩) 1 1] 24) |>.heap (unhide HZ1) (by simp)) (by simp))
  have HK2 := hide (((unhide HK1).alloc _).trans k2 (by simp))
  clear k2
  go_wp2_with (refine wpList_store_row rfl 26 _ _ rfl w.heap.size (brow (cutL z.toNat (hash [5]))) rfl rfl _ (zb 32) (unhide HZ2) (by rw [brow_size, hcl]; exact Tryd.size_dig) (by rw [zb_size, brow_size, hcl]) (brow_one _) ?_)
  refine bodyPost_ret (v := .tuple #[.agg (brow (cutL z.toNat (hash [5]))), .int .i64 0]) ?_ rfl ⟨rfl, (unhide HK2).setRow (by simp) _⟩
  exact results_cell_tmp rfl _ _ w.heap.size _ (brow (cutL z.toNat (hash [5]))) (0, 0) _ rfl (setRow_heap _ _ _ _ _ _ (unhide HZ2)) Tryd.underlying26 rfl (by rw [brow_size, hcl]; exact Tryd.size_dig) _ rfl

end Go.Proofs.YtbbjbpjpejekgaaDoor
