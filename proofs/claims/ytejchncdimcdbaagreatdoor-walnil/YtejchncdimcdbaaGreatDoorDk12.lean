import Derived.Test.YtejchncdimcdbaaGreatDoorDk11
namespace Go.Proofs.YtejchncdimcdbaaGreatDoor
open Go.RowKit Go.BigFrame
set_option linter.unusedVariables false
set_option linter.unusedSimpArgs false

set_option maxRecDepth 100000 in
set_option maxHeartbeats 1000000 in
theorem read_off (d sec m N : Nat) (s : ByteArray) (w : World) (u fv : Value) (cr op : Int) (ft : Int → Option Int) (fs : List DFile) (h : DkAt w d sec m N u fv cr op true ft fs) :
    Calls Tryz.prog 33 #[.pointer (some ⟨d, 0, none⟩), .string s] w fun e w' => e = .returned (.tuple #[.slice none 0 0, .int .i64 12]) ∧ w' = w := by
  have HD := hide h
  clear h
  go_enter Tryz.func33, Tryz.ntmps33
  go_wp2_with fail
  refine Calls.mono (power_any d w sec m u fv cr op true (unhide HD).row) ?_
  rintro e w1 ⟨rfl, rfl⟩
  simp only [if_true]
  go_wp2_with fail
  go_ret2
  exact ⟨rfl, rfl⟩
set_option maxRecDepth 100000 in
set_option maxHeartbeats 1000000 in
theorem read_none (d sec m N : Nat) (s : ByteArray) (w : World) (u fv : Value) (cr op : Int) (ft : Int → Option Int) (fs : List DFile) (h : DkAt w d sec m N u fv cr op false ft fs) (hs : s.size ≤ 140737488355328) (hl : look fs s.data.toList = none) :
    Calls Tryz.prog 33 #[.pointer (some ⟨d, 0, none⟩), .string s] w fun e w' => e = .returned (.tuple #[.slice none 0 0, .int .i64 5]) ∧ w' = w := by
  have HD := hide h
  have HL := hide hl
  clear h hl
  go_enter Tryz.func33, Tryz.ntmps33
  go_wp2_with fail
  refine Calls.mono (power_any d w sec m u fv cr op false (unhide HD).row) ?_
  rintro e w1 ⟨rfl, rfl⟩
  simp only [Bool.false_eq_true, if_false]
  go_wp2_with fail
  refine Calls.mono (dfind_any d s _ sec m N u fv cr op false fs (unhide HD).row (unhide HD).map hs) ?_
  rintro e w2 ⟨rfl, rfl⟩
  rw [unhide HL]
  simp only [ptrO, Option.map_none, Option.isSome_none, Bool.false_eq_true, if_false]
  go_wp2_with fail
  go_ret2
  exact ⟨rfl, rfl⟩
set_option maxRecDepth 100000 in
set_option maxHeartbeats 1000000 in
theorem read_some (d sec m N : Nat) (s : ByteArray) (w : World) (u fv : Value) (cr op : Int) (ft : Int → Option Int) (fs : List DFile) (h : DkAt w d sec m N u fv cr op false ft fs) (hs : s.size ≤ 140737488355328) (f : DFile) (hf : f ∈ fs) (hl : look fs s.data.toList = some f.g) (hlen : f.bs.length ≤ 140737488355328) :
    Calls Tryz.prog 33 #[.pointer (some ⟨d, 0, none⟩), .string s] w fun e w' => e = .returned (.tuple #[.slice (some ⟨w.heap.size, 0, none⟩) f.bs.length f.bs.length, .int .i64 0]) ∧ Kept [] w w' ∧ w'.heap[w.heap.size]? = some (.cells (f.bs.map u8).toArray 5 (0, 0)) := by
  have HD := hide h
  have HL := hide hl
  have HF := hide hf
  have hfile := h.files f hf
  have c1 := cell_of_row _ _ 1 _ _ _ hfile.1
  simp at c1
  have HR := hide (rd_owns hfile.2.1 hfile.2.2.1 hlen)
  clear h hl hf hfile
  go_enter Tryz.func33, Tryz.ntmps33
  go_wp2_with fail
  refine Calls.mono (power_any d w sec m u fv cr op false (unhide HD).row) ?_
  rintro e w1 ⟨rfl, rfl⟩
  simp only [Bool.false_eq_true, if_false]
  go_wp2_with fail
  refine Calls.mono (dfind_any d s _ sec m N u fv cr op false fs (unhide HD).row (unhide HD).map hs) ?_
  rintro e w2 ⟨rfl, rfl⟩
  rw [unhide HL]
  simp only [ptrO, Option.map_some, Option.isSome_some, if_true]
  go_wp2_with fail
  refine Calls.mono (dcloned_any _ f.bs _ (unhide HR)) ?_
  rintro e w3 ⟨rfl, hk3, hh3⟩
  have HK3 := hide hk3
  have HH3 := hide hh3
  clear hk3 hh3
  go_wp2_with fail
  go_ret2
  exact ⟨rfl, unhide HK3, unhide HH3⟩
set_option maxRecDepth 100000 in
set_option maxHeartbeats 1000000 in
theorem ops_any (d sec m N : Nat) (w : World) (u fv : Value) (cr op : Int) (off : Bool) (ft : Int → Option Int) (fs : List DFile) (h : DkAt w d sec m N u fv cr op off ft fs) :
    Calls Tryz.prog 29 #[.pointer (some ⟨d, 0, none⟩)] w fun e w' => e = .returned (.int .i64 op) ∧ w' = w := by
  have HD := hide h
  have hrow := h.row
  unfold DRow at hrow
  have d5 := cell_of_row _ _ 5 _ _ _ hrow
  simp at d5
  clear h hrow
  go_enter Tryz.func29, Tryz.ntmps29
  go_wp2_with fail
  refine Calls.mono (dnone_any d w sec m u fv cr op off (unhide HD).row) ?_
  rintro e w1 ⟨rfl, rfl⟩
  go_wp2_with fail
  go_ret
  exact ⟨rfl, rfl⟩
end Go.Proofs.YtejchncdimcdbaaGreatDoor
