import Derived.Test.YtecadmldnjlibaaDoorDSum
import Derived.Test.YtecadmldnjlibaaDoorWNew
namespace Go.Proofs.YtecadmldnjlibaaDoor
open Go.RowKit Go.BigFrame
set_option linter.unusedVariables false
set_option linter.unusedSimpArgs false

set_option maxRecDepth 100000 in
set_option maxHeartbeats 1000000 in
theorem tagged_any (tag : Nat) (v : Value) (ps : List (List Nat)) (w : World) (ht : tag < 256) (hv : RdL w v ps) (hl : ps.flatten.length ≤ 140737488351232) :
    Calls Tryd.prog 76 #[.int .u8 tag, v] w fun e w' => ∃ g, e = .returned (.slice (some ⟨g, 0, none⟩) (ps.flatten.length + 1) (ps.flatten.length + 1)) ∧ w.heap.size ≤ g ∧ w'.heap[g]? = some (.cells ((tag :: ps.flatten).map u8).toArray 5 (0, 0)) ∧ Kept [] w w' := by
  obtain ⟨ao, len, cap, vs, rfl, h1, h2', h3, h4, h5, h6⟩ := hv
  have H5 := hide h5
  have H6 := hide h6
  clear h5 h6
  subst h2'
  have HW := hide (WrAt.new w)
  go_enter Tryd.func76, Tryd.ntmps76
  go_wp2_with fail
  refine Calls.mono (wu8_any w.heap.size _ [] tag _ (unhide HW) ht (by simp)) ?_
  rintro e w1 ⟨rfl, v1, hw1, g1⟩
  have hwide : wide tag 1 = [tag] := by simp [wide]; omega
  rw [hwide, List.nil_append] at hw1
  have HW1 := hide hw1
  have HV1 := hide (g1.fresh (B := w.heap.size) (by intro g hg; simp [Value.ownBlock] at hg) (by simp))
  have HK1 := hide (g1.keptNil ((Kept.refl [] w).alloc _) (by omega) (by intro g hg; simp [Value.ownBlock] at hg))
  clear hw1 g1 hwide
  go_wp2_with fail
  go_loopw [12] (fun t12 wr => ∃ (i : Nat) (vv : Value), i ≤ ps.length ∧ t12 = .int .i64 i ∧ Hid (WrAt wr w.heap.size vv (tag :: (ps.take i).flatten)) ∧ Hid (∀ g, vv.ownBlock = some g → w.heap.size ≤ g) ∧ Hid (Kept [] w wr)) (fun t _ => ps.length - (intOf t).toNat)
  case atStart => exact ⟨0, v1, Nat.zero_le _, rfl, HW1, HV1, HK1⟩
  case round =>
    clear HW1 HV1 HK1
    obtain ⟨i, vv, hi, rfl, HWr, HVr, HK⟩ := hrel
    by_cases hlt : i < ps.length
    · have hlt' : (i : Int) < ps.length := by omega
      obtain ⟨b, o, rfl, hcell⟩ := unhide H5 (by omega)
      have ci := (unhide HK).cell (hcell i hlt) (by simp)
      have HR := hide ((unhide H6 i hlt).old (unhide HK) (by simp))
      have HFS := hide (flat_snoc ps i hlt)
      have HFL := hide (flat_le ps (i + 1))
      clear hcell
      generalize vs.getD i undef = vi at ci HR
      generalize ps.getD i [] = pi at HR HFS
      go_wp2_with fail
      refine Calls.mono (wraw_any w.heap.size vv vi _ pi wr (unhide HWr) (unhide HR) (by have h8 := unhide HFL; rw [unhide HFS, List.length_append] at h8; rw [List.length_cons]; omega)) ?_
      rintro e w4 ⟨rfl, v4, hw4, g4⟩
      rw [List.cons_append, ← unhide HFS] at hw4
      have HW4 := hide hw4
      have HV4 := hide (g4.fresh (unhide HVr) (unhide HK).size)
      have HK4 := hide (g4.keptNil (unhide HK) (Nat.le_refl _) (unhide HVr))
      clear hw4 g4
      go_wp2
      go_roundw
      case rel => exact ⟨i + 1, v4, by omega, by go_num, HW4, HV4, HK4⟩
      case measure => simp [intOf]; omega
    · have hlt' : ¬ (i : Int) < ps.length := by omega
      have hie : i = ps.length := by omega
      subst hie
      rw [List.take_length] at HWr
      obtain ⟨F, hF⟩ : ∃ F, ps.flatten = F := ⟨_, rfl⟩
      rw [hF] at HWr hl
      have HF := hide hF
      clear hF
      go_wp2_with fail
      refine Calls.mono (wbytes_any w.heap.size vv _ wr (unhide HWr) (by rw [List.length_cons]; omega)) ?_
      rintro e w5 ⟨rfl, k5, h5⟩
      have HR5 := hide h5
      have HK5 := hide ((unhide HK).trans k5 (by simp))
      clear k5 h5
      go_wp2
      go_ret
      exact ⟨wr.heap.size, by rw [unhide HF]; rfl, (unhide HK).size, by rw [unhide HF]; exact unhide HR5, unhide HK5⟩

theorem RdL.nil (w : World) : RdL w (.slice none 0 0) [] := ⟨none, 0, 0, [], rfl, rfl, rfl, Nat.le_refl _, by omega, fun h => by omega, fun i h => by omega⟩
/-- One list. -/
theorem RdL.one {w : World} {g : Nat} {v : Value} {p : List Nat} {t : TypeId} {fr : Nat × Nat} (h : w.heap[g]? = some (.cells #[v] t fr)) (hr : Rd w v p) : RdL w (.slice (some ⟨g, 0, none⟩) 1 1) [p] := by
  refine ⟨_, 1, 1, [v], rfl, rfl, rfl, Nat.le_refl _, by omega, fun _ => ⟨g, 0, rfl, fun i hi => ?_⟩, fun i hi => ?_⟩
  · have : i = 0 := by omega
    subst this
    rw [cell_of_row _ _ _ _ _ _ h]; rfl
  · have : i = 0 := by omega
    subst this
    exact hr

end Go.Proofs.YtecadmldnjlibaaDoor
