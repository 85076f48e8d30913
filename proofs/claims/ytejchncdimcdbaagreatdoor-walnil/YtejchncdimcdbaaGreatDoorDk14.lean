import Derived.Test.YtejchncdimcdbaaGreatDoorDk13
namespace Go.Proofs.YtejchncdimcdbaaGreatDoor
open Go.RowKit Go.BigFrame
set_option linter.unusedVariables false
set_option linter.unusedSimpArgs false

set_option maxRecDepth 100000 in
set_option maxHeartbeats 1000000 in
theorem syncNames_off (d sec m N : Nat) (w : World) (u fv : Value) (cr op : Int) (ft : Int → Option Int) (fs : List DFile) (h : DkAt w d sec m N u fv cr op true ft fs) :
    Calls Tryz.prog 91 #[.pointer (some ⟨d, 0, none⟩)] w fun e w' => e = .returned (.int .i64 12) ∧ w' = w := by
  have HD := hide h
  clear h
  go_enter Tryz.func91, Tryz.ntmps91
  go_wp2_with fail
  refine Calls.mono (power_any d w sec m u fv cr op true (unhide HD).row) ?_
  rintro e w1 ⟨rfl, rfl⟩
  simp only [if_true]
  go_wp2_with fail
  go_ret
  exact ⟨rfl, rfl⟩
def snF (fs : List DFile) (E : Nat) : List DFile := if E = 0 then fs.map fun f => { f with nd := true } else fs
def snU (u : Value) (E : Nat) : Value := if E = 0 then .slice none 0 0 else u
set_option maxRecDepth 100000 in
set_option maxHeartbeats 1000000 in
theorem syncNames_any (d sec m N : Nat) (w : World) (u fv : Value) (cr op : Int) (ft : Int → Option Int) (fs : List DFile) (h : DkAt w d sec m N u fv cr op false ft fs) (ho : 0 ≤ op ∧ op ≤ 1000000000000) (hfs : fs.length ≤ 1000000000) :
    Calls Tryz.prog 91 #[.pointer (some ⟨d, 0, none⟩)] w fun e w' => ∃ E, E = opE ft cr op 0 ∧ e = .returned (.int .i64 (E : Nat)) ∧
      DkAt w' d sec m N (snU u E) fv cr (op + 1) (decide (op + 1 = cr)) ft (snF fs E) ∧ Kept (d :: fs.map DFile.g) w w' := by
  have HD := hide h
  clear h
  obtain ⟨E, hE⟩ : ∃ E, opE ft cr op 0 = E := ⟨_, rfl⟩
  have HE := hide hE
  clear hE
  go_enter Tryz.func91, Tryz.ntmps91
  go_wp2_with fail
  refine Calls.mono (power_any d w sec m u fv cr op false (unhide HD).row) ?_
  rintro e w1 ⟨rfl, rfl⟩
  simp only [Bool.false_eq_true, if_false]
  go_wp2_with fail
  refine Calls.mono (operation_any d 0 _ sec (.map (some m)) N u fv cr op false ft (unhide HD).row (unhide HD).ft ho (by decide)) ?_
  rintro e w3 ⟨rfl, hr3, hk3⟩
  rw [unhide HE]
  have HK3 := hide (hk3.mono (M := d :: fs.map DFile.g) (by intro x hx; simp at hx; simp [hx]))
  have HD3 := hide (by simpa using (unhide HD).turned hk3 hr3 : DkAt w3 d sec m N u fv cr (op + 1) (decide (op + 1 = cr)) ft fs)
  clear hr3 hk3
  by_cases h0 : E = 0
  · subst h0
    go_wp2_with fail
    refine Calls.mono (nameAll_any d sec m N _ u fv cr (op + 1) _ ft fs (unhide HD3) hfs) ?_
    rintro e w4 ⟨rfl, hd4, hk4⟩
    have HD4 := hide hd4
    have HK4 := hide hk4
    clear hd4 hk4
    go_wp2_with fail
    go_ret
    exact ⟨0, (unhide HE).symm, rfl, unhide HD4, (unhide HK3).trans (unhide HK4) (fun x hx => .inl hx)⟩
  · have hb : ((E : Int) == 0) = false := by simp; omega
    have H0 := hide h0
    clear h0
    go_wp2_with fail
    go_ret
    refine ⟨E, (unhide HE).symm, rfl, ?_, unhide HK3⟩
    unfold snU snF
    rw [if_neg (unhide H0), if_neg (unhide H0)]
    exact unhide HD3
set_option maxRecDepth 100000 in
set_option maxHeartbeats 1000000 in
theorem formed_nil (w : World) : Calls Tryz.prog 41 #[.slice none 0 0] w fun e w' => e = .returned (.bool true) ∧ w' = w := by
  go_enter Tryz.func41, Tryz.ntmps41
  go_wp2_with fail
  go_loopw [7] (fun t7 wr => t7 = .int .i64 0 ∧ wr = w) (fun t _ => 0)
  case atStart => exact ⟨rfl, rfl⟩
  case round =>
    obtain ⟨rfl, rfl⟩ := hrel
    go_wp2_with fail
    go_ret
    exact ⟨rfl, rfl⟩
set_option maxRecDepth 100000 in
set_option maxHeartbeats 1000000 in
theorem new_any (sec : Nat) (w : World) (h1 : 1 ≤ sec) (h2 : sec ≤ 4096) :
    Calls Tryz.prog 13 #[.int .i64 sec, .slice none 0 0] w fun e w' => ∃ d m, e = .returned (.tuple #[.pointer (some ⟨d, 0, none⟩), .int .i64 0]) ∧ w.heap.size ≤ d ∧ w.heap.size ≤ m ∧ DkAt w' d sec m 0 (.slice none 0 0) (.map none) 0 0 false (fun _ => none) [] ∧ Kept [] w w' := by
  go_enter Tryz.func13, Tryz.ntmps13
  go_wp2_with fail
  refine Calls.mono (formed_nil w) ?_
  rintro e w1 ⟨rfl, rfl⟩
  have hmm := run_makeMap (P := Tryz.prog) 97 w1
  go_wp2_with fail
  go_loopw [24] (fun t24 wr => t24 = .int .i64 0 ∧ wr = (w1.alloc (.map #[] 0)).alloc (.cells #[.int .i64 sec, .map (some w1.heap.size), .slice none 0 0, .map none, .int .i64 0, .int .i64 0, .bool false] 101 (0, 0))) (fun t _ => 0)
  case atStart => exact ⟨rfl, rfl⟩
  case round =>
    obtain ⟨rfl, rfl⟩ := hrel
    go_wp2_with fail
    go_ret2
    have k2 := (((Kept.refl [] w1).alloc (.map #[] 0)).alloc (.cells #[.int .i64 sec, .map (some w1.heap.size), .slice none 0 0, .map none, .int .i64 0, .int .i64 0, .bool false] 101 (0, 0)))
    have hrow := heap_alloc_new (w1.alloc (.map #[] 0)) (.cells #[.int .i64 sec, .map (some w1.heap.size), .slice none 0 0, .map none, .int .i64 0, .int .i64 0, .bool false] 101 (0, 0))
    rw [show (w1.alloc (.map #[] 0)).heap.size = w1.heap.size + 1 by simp] at hrow
    refine ⟨_, w1.heap.size, rfl, by omega, Nat.le_refl _, ⟨hrow, ⟨0, .map [], (World.ownsMap_made w1 Tryz.prog 9 ptrElem).alloc _, Nat.le_refl _, MapIs.empty⟩, Qr.nil _ _, .inl ⟨rfl, fun _ => rfl⟩, by simp, List.Pairwise.nil, by simp [mblk]⟩, k2⟩
end Go.Proofs.YtejchncdimcdbaaGreatDoor
