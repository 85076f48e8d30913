import Derived.Test.YtejchncdimcdbaaGreatDoorDk8
namespace Go.Proofs.YtejchncdimcdbaaGreatDoor
open Go.RowKit Go.BigFrame
set_option linter.unusedVariables false
set_option linter.unusedSimpArgs false

set_option maxRecDepth 100000 in
set_option maxHeartbeats 1000000 in
theorem sync_off (d sec m N : Nat) (s : ByteArray) (w : World) (u fv : Value) (cr op : Int) (ft : Int → Option Int) (fs : List DFile) (h : DkAt w d sec m N u fv cr op true ft fs) :
    Calls Tryz.prog 86 #[.pointer (some ⟨d, 0, none⟩), .string s] w fun e w' => e = .returned (.int .i64 12) ∧ w' = w := by
  have HD := hide h
  clear h
  go_enter Tryz.func86, Tryz.ntmps86
  go_wp2_with fail
  refine Calls.mono (power_any d w sec m u fv cr op true (unhide HD).row) ?_
  rintro e w1 ⟨rfl, rfl⟩
  simp only [if_true]
  go_wp2_with fail
  go_ret
  exact ⟨rfl, rfl⟩
set_option maxRecDepth 100000 in
set_option maxHeartbeats 1000000 in
theorem sync_none (d sec m N : Nat) (s : ByteArray) (w : World) (u fv : Value) (cr op : Int) (ft : Int → Option Int) (fs : List DFile) (h : DkAt w d sec m N u fv cr op false ft fs) (hs : s.size ≤ 140737488355328) (ho : 0 ≤ op ∧ op ≤ 1000000000000) (hl : look fs s.data.toList = none) :
    Calls Tryz.prog 86 #[.pointer (some ⟨d, 0, none⟩), .string s] w fun e w' => e = .returned (.int .i64 (opE ft cr op 5 : Nat)) ∧
      DkAt w' d sec m N u fv cr (op + 1) (decide (op + 1 = cr)) ft fs ∧ Kept [d] w w' := by
  have HD := hide h
  have HL := hide hl
  clear h hl
  obtain ⟨E, hE⟩ : ∃ E, opE ft cr op 5 = E := ⟨_, rfl⟩
  have h0 : E ≠ 0 := by
    rw [← hE]
    unfold opE
    split
    · decide
    · rw [if_pos (by decide)]; decide
  rw [hE]
  have HE := hide hE
  clear hE
  have hb : ((E : Int) == 0) = false := by simp; omega
  clear h0
  go_enter Tryz.func86, Tryz.ntmps86
  go_wp2_with fail
  refine Calls.mono (power_any d w sec m u fv cr op false (unhide HD).row) ?_
  rintro e w1 ⟨rfl, rfl⟩
  simp only [Bool.false_eq_true, if_false]
  go_wp2_with fail
  refine Calls.mono (dfind_any d s _ sec m N u fv cr op false fs (unhide HD).row (unhide HD).map hs) ?_
  rintro e w2 ⟨rfl, rfl⟩
  rw [unhide HL]
  simp only [ptrO, Option.map_none, Option.isSome_none, Bool.false_eq_true, if_false]
  go_wp2_with fail
  refine Calls.mono (operation_any d 5 _ sec (.map (some m)) N u fv cr op false ft (unhide HD).row (unhide HD).ft ho (by decide)) ?_
  rintro e w3 ⟨rfl, hr3, hk3⟩
  rw [unhide HE]
  have HR3 := hide hr3
  have HK3 := hide hk3
  clear hr3 hk3
  go_wp2_with fail
  go_ret
  exact ⟨rfl, by simpa using (unhide HD).turned (unhide HK3) (unhide HR3), unhide HK3⟩
set_option maxRecDepth 100000 in
set_option maxHeartbeats 1000000 in
theorem sync_some (d sec m N : Nat) (s : ByteArray) (w : World) (u fv : Value) (cr op : Int) (ft : Int → Option Int) (fs : List DFile) (h : DkAt w d sec m N u fv cr op false ft fs) (hs : s.size ≤ 140737488355328) (ho : 0 ≤ op ∧ op ≤ 1000000000000) (f : DFile) (hf : f ∈ fs) (hl : look fs s.data.toList = some f.g) :
    Calls Tryz.prog 86 #[.pointer (some ⟨d, 0, none⟩), .string s] w fun e w' => ∃ E, E = opE ft cr op 0 ∧ e = .returned (.int .i64 (E : Nat)) ∧
      DkAt w' d sec m N u fv cr (op + 1) (decide (op + 1 = cr)) ft (if E = 0 then upF fs f.g f.v f.bs f.bs.length else fs) ∧ Kept [d, f.g] w w' := by
  have HD := hide h
  have HL := hide hl
  have HF := hide hf
  clear h hl hf
  obtain ⟨E, hE⟩ : ∃ E, opE ft cr op 0 = E := ⟨_, rfl⟩
  have HE := hide hE
  clear hE
  go_enter Tryz.func86, Tryz.ntmps86
  go_wp2_with fail
  refine Calls.mono (power_any d w sec m u fv cr op false (unhide HD).row) ?_
  rintro e w1 ⟨rfl, rfl⟩
  simp only [Bool.false_eq_true, if_false]
  go_wp2_with fail
  refine Calls.mono (dfind_any d s _ sec m N u fv cr op false fs (unhide HD).row (unhide HD).map hs) ?_
  rintro e w2 ⟨rfl, rfl⟩
  rw [unhide HL]
  simp only [ptrO, Option.map_some, Option.isSome_some, if_true]
  go_wp2_with fail
  refine Calls.mono (operation_any d 0 _ sec (.map (some m)) N u fv cr op false ft (unhide HD).row (unhide HD).ft ho (by decide)) ?_
  rintro e w3 ⟨rfl, hr3, hk3⟩
  rw [unhide HE]
  have HK3 := hide hk3
  have HD3 := hide (by simpa using (unhide HD).turned hk3 hr3 : DkAt w3 d sec m N u fv cr (op + 1) (decide (op + 1 = cr)) ft fs)
  clear hr3 hk3
  by_cases h0 : E = 0
  · subst h0
    have hg := ((unhide HD3).files f (unhide HF)).1
    obtain ⟨ao, cap, hv⟩ := owns_shape ((unhide HD3).files f (unhide HF)).2.1
    have c1 := cell_of_row _ _ 1 _ _ _ hg
    have c2 := cell_of_row _ _ 2 _ _ _ hg
    simp at c1 c2
    rw [hv] at c1
    have hz2 := frozen_of_row _ _ 2 _ _ hg
    have HG := hide hg
    have HV := hide hv
    clear hg hv
    go_wp2_with fail
    go_ret
    have hfile := (unhide HD3).files f (unhide HF)
    have kf : Kept [f.g] w3 (w3.setCell ⟨f.g, 2, none⟩ (.int .i64 f.bs.length)) := (Kept.refl [f.g] w3).setCell (.inl (by simp)) _
    refine ⟨0, (unhide HE).symm, rfl, ?_, ((unhide HK3).mono (by intro x hx; simp at hx; simp [hx])).trans kf (by intro x hx; simp at hx; simp [hx])⟩
    rw [if_pos rfl]
    refine (unhide HD3).upd (unhide HF) (kf.mono (by intro x hx; simp at hx; simp [hx])) ⟨heap_setCell_same _ _ 2 _ _ _ (unhide HG), kf.owns hfile.2.1 ?_, hfile.2.2.1, Nat.le_refl _⟩ (fun x hx => .inl hx)
    intro x hx
    obtain ⟨cs, hc⟩ := owns_cells hfile.2.1 (own_blk hx)
    simpa using cells_ne hc hfile.1 (by decide)
  · have hb : ((E : Int) == 0) = false := by simp; omega
    have H0 := hide h0
    clear h0
    go_wp2_with fail
    go_ret
    exact ⟨E, (unhide HE).symm, rfl, by rw [if_neg (unhide H0)]; exact unhide HD3, (unhide HK3).mono (by intro x hx; simp at hx; simp [hx])⟩
end Go.Proofs.YtejchncdimcdbaaGreatDoor
