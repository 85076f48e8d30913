import Derived.Test.YtejchncdimcdbaaGreatDoorDk3
namespace Go.Proofs.YtejchncdimcdbaaGreatDoor
open Go.RowKit Go.BigFrame
set_option linter.unusedVariables false
set_option linter.unusedSimpArgs false

def own1 (fs : List DFile) (s : ByteArray) : Nat := if isNm s then (if (look fs s.data.toList).isSome then 6 else 0) else 3
set_option maxRecDepth 100000 in
set_option maxHeartbeats 1000000 in
theorem createError_any (d : Nat) (s : ByteArray) (w : World) (sec : Int) (m N : Nat) (u fv : Value) (cr op : Int) (off : Bool) (fs : List DFile) (h : DRow w d sec (.map (some m)) u fv cr op off) (hm : DMap w m N fs) (hs : s.size ≤ 140737488355328) :
    Calls Tryz.prog 132 #[.pointer (some ⟨d, 0, none⟩), .string s] w fun e w' => e = .returned (.int .i64 (own1 fs s : Nat)) ∧ w' = w := by
  have H1 := hide h
  have H2 := hide hm
  clear h hm
  obtain ⟨E, hE⟩ : ∃ E, own1 fs s = E := ⟨_, rfl⟩
  rw [hE]
  have HE := hide hE
  clear hE
  cases hI : isNm s
  all_goals
    have HI := hide hI
    clear hI
    go_enter Tryz.func132, Tryz.ntmps132
    go_wp2_with fail
    refine Calls.mono (isName_any s w hs) ?_
    rintro e w1 ⟨rfl, rfl⟩
    rw [unhide HI]
  · go_wp2_with fail
    go_ret
    exact ⟨by rw [← unhide HE, own1, unhide HI]; rfl, rfl⟩
  · go_wp2_with fail
    refine Calls.mono (dfind_any d s _ sec m N u fv cr op off fs (unhide H1) (unhide H2) hs) ?_
    rintro e w2 ⟨rfl, rfl⟩
    cases hL : look fs s.data.toList with
    | none =>
      have HL := hide hL
      clear hL
      simp only [ptrO, Option.map_none, Option.isSome_none]
      go_wp2_with fail
      go_ret
      exact ⟨by rw [← unhide HE, own1, unhide HI, unhide HL]; rfl, rfl⟩
    | some g =>
      have HL := hide hL
      clear hL
      simp only [ptrO, Option.map_some, Option.isSome_some]
      go_wp2_with fail
      go_ret
      exact ⟨by rw [← unhide HE, own1, unhide HI, unhide HL]; rfl, rfl⟩
theorem ownsMap_heap {H : Type} {P : Program} {k : TypeId} {R : Value → Option (DataW H × List MemPlace)} {w w' : World} {b n : Nat} {D : DataW H} (h : w.ownsMap P k R b n D) (e : w'.heap[b]? = w.heap[b]?) : w'.ownsMap P k R b n D := by
  obtain ⟨es, ck, he, r⟩ := h
  exact ⟨es, ck, e.trans he, r⟩
/-- The faults: a map from an operation's number to a count, or none. -/
def FMap (w : World) (fv : Value) (N : Nat) (ft : Int → Option Int) : Prop :=
  (fv = .map none ∧ ∀ a, ft a = none) ∨ ∃ (b n : Nat) (D : DataW Unit), fv = .map (some b) ∧ w.ownsMap Tryz.prog 3 (plainElem Tryz.prog 3) b n D ∧ n ≤ N ∧ ∀ a, Maps.has D (.int .i64 a) = (ft a).isSome ∧ ∀ z, D.atKey (.int .i64 a) z = match ft a with | none => z | some c => .lit (.int .i64 c)
def opE (ft : Int → Option Int) (cr op : Int) (own : Nat) : Nat := if op + 1 = cr then 12 else if own ≠ 0 then own else if (ft (op + 1)).isSome then 7 else 0
theorem keyI : Maps.Keyed Tryz.prog 3 := Maps.int_keyed Tryz.underlying3
theorem zeroI3 (w : World) : (zeroValue 3).run Tryz.prog w = .ok (.int .i64 0) w := by kernel_rfl
theorem look_faults {w : World} {b n : Nat} {D : DataW Unit} {ft : Int → Option Int} (hown : w.ownsMap Tryz.prog 3 (plainElem Tryz.prog 3) b n D) (hD : ∀ a, Maps.has D (.int .i64 a) = (ft a).isSome ∧ ∀ z, D.atKey (.int .i64 a) z = match ft a with | none => z | some c => .lit (.int .i64 c)) (a : Int) (hk : keyOf Tryz.prog 3 (.int .i64 a) = some (.int .i64 a)) :
    (Instr.lookup 99 (.map (some b)) (.int .i64 a) true).run Tryz.prog w = .ok (.tuple #[.int .i64 ((ft a).getD 0), .bool (ft a).isSome]) w := by
  obtain ⟨v, ps, hrun, hv⟩ := hown.look_ok keyI Tryz.underlying99 (zeroI3 _) (plainElem_int Tryz.underlying3 (by decide)) hk
  obtain ⟨c, rfl, h2, _⟩ := plainElem_int_inv Tryz.underlying3 hv
  rw [(hD a).1] at hrun
  rw [(hD a).2] at h2
  rw [hrun]
  cases hf : ft a with
  | none => rw [hf] at h2; simp at h2; rw [← h2.1]; rfl
  | some c0 => rw [hf] at h2; simp at h2; rw [← h2.1]; rfl
set_option maxRecDepth 100000 in
set_option maxHeartbeats 1000000 in
theorem operation_any (d own : Nat) (w : World) (sec : Int) (m : Value) (N : Nat) (u fv : Value) (cr op : Int) (off : Bool) (ft : Int → Option Int) (h : DRow w d sec m u fv cr op off) (hf : FMap w fv N ft) (ho : 0 ≤ op ∧ op ≤ 1000000000000) (hw : own < 100) :
    Calls Tryz.prog 130 #[.pointer (some ⟨d, 0, none⟩), .int .i64 own] w fun e w' => e = .returned (.int .i64 (opE ft cr op own : Nat)) ∧ DRow w' d sec m u fv cr (op + 1) (off || decide (op + 1 = cr)) ∧ Kept [d] w w' := by
  unfold DRow at h
  have HR := hide h
  have c4 := cell_of_row _ _ 4 _ _ _ h
  have c5 := cell_of_row _ _ 5 _ _ _ h
  simp at c4 c5
  have hz := frozen_of_row _ _ 5 _ _ h
  have hz6 := frozen_of_row _ _ 6 _ _ h
  clear h
  have HF := hide hf
  clear hf
  obtain ⟨E, hE⟩ : ∃ E, opE ft cr op own = E := ⟨_, rfl⟩
  rw [hE]
  have HE := hide hE
  clear hE
  go_enter Tryz.func130, Tryz.ntmps130
  go_wp2_with fail
  clear c4 c5 hz hz6
  have HK1 := hide ((Kept.refl [d] w).setCell (p := ⟨d, 5, none⟩) (.inl (by simp)) (.int .i64 (op + 1)))
  have HR1 := hide (heap_setCell_same _ _ 5 _ _ (.int .i64 (op + 1)) (unhide HR))
  obtain ⟨W1, hW1⟩ : ∃ W, w.setCell ⟨d, 5, none⟩ (.int .i64 (op + 1)) = W := ⟨_, rfl⟩
  rw [hW1] at HK1 HR1 ⊢
  clear hW1
  have c4 := cell_of_row _ _ 4 _ _ _ (unhide HR1)
  have c5 := cell_of_row _ _ 5 _ _ _ (unhide HR1)
  simp at c4 c5
  have c6 := cell_of_row _ _ 6 _ _ _ (unhide HR1)
  simp at c6
  have hz6 := frozen_of_row _ _ 6 _ _ (unhide HR1)
  refine wp_region_quiet_lit (by kernel_rfl) (by kernel_rfl) ?_
  repeat (go_big_quiet_step (fail))
  refine wpQuiet_nil ?_
  rintro _ ⟨n1, rfl⟩
  by_cases h1 : op + 1 = cr
  · go_wp2_with fail
    go_ret
    refine ⟨by rw [← unhide HE, opE, if_pos h1]; rfl, ?_, ((unhide HK1).drewN n1).setCell (.inl (by simp)) _⟩
    rw [decide_eq_true h1, Bool.or_true]
    exact heap_setCell_same _ _ 6 _ _ (.bool true) (unhide HR1)
  · have HN := hide h1
    have hb : (op + 1 == cr) = false := by simpa using h1
    have HR2 := hide (by
      rw [decide_eq_false h1, Bool.or_false]
      exact unhide HR1 : DRow (W1.drewN n1) d sec m u fv cr (op + 1) (off || decide (op + 1 = cr)))
    have HK2 := hide ((unhide HK1).drewN n1)
    have c3 := cell_of_row _ _ 3 _ _ _ (unhide HR1)
    simp at c3
    clear h1
    by_cases h2 : own = 0
    · subst h2
      have HKI := hide (Maps.keyOf_int_mk (P := Tryz.prog) (k := 3) Tryz.underlying3 (a := op + 1) (by simp [Lit.wf, IntKind.min, IntKind.max, IntKind.signed, IntKind.bits]; omega))
      rcases unhide HF with ⟨rfl, hft⟩ | ⟨b, n, D, rfl, hown, hn, hD⟩
      · have hlk : ∀ x : World, (Instr.lookup 99 (.map none) (.int .i64 (op + 1)) true).run Tryz.prog x = .ok (.tuple #[.int .i64 0, .bool false]) x := fun x => Maps.look_nil true keyI Tryz.underlying99 (zeroI3 x) (unhide HKI)
        go_wp2_with fail
        refine wp_region_quiet_lit (by kernel_rfl) (by kernel_rfl) ?_
        repeat (go_big_quiet_step (fail))
        refine wpQuiet_nil ?_
        rintro _ ⟨n2, rfl⟩
        go_wp2_with fail
        go_ret
        exact ⟨by rw [← unhide HE, opE, if_neg (unhide HN), if_neg (by simp), hft]; rfl, unhide HR2, (unhide HK2).drewN n2⟩
      · have hob : (W1.drewN n1).ownsMap Tryz.prog 3 (plainElem Tryz.prog 3) b n D := ownsMap_heap hown (by
          refine (unhide HK1).block b hown.lt ?_
          intro hm
          simp only [List.mem_singleton] at hm
          subst hm
          obtain ⟨es, ck, he, _⟩ := hown
          rw [unhide HR] at he
          cases he)
        have hrun := fun j : Nat => look_faults (ft := ft) (ownsMap_heap (w' := W1.drewN j) hob rfl) hD (op + 1) (unhide HKI)
        have HD := hide hD
        clear hD hown hob
        cases hft : ft (op + 1)
        all_goals
          have HFT := hide hft
          rw [hft] at hrun
          simp only [Option.isSome_none, Option.isSome_some, Option.getD_none, Option.getD_some] at hrun
          clear hft
          go_wp2_with fail
          refine wp_region_quiet_lit (by kernel_rfl) (by kernel_rfl) ?_
          repeat (go_big_quiet_step (fail))
          refine wpQuiet_nil ?_
          rintro _ ⟨n2, rfl⟩
          go_wp2_with fail
          go_ret
          exact ⟨by rw [← unhide HE, opE, if_neg (unhide HN), if_neg (by simp), unhide HFT]; rfl, unhide HR2, (unhide HK2).drewN n2⟩
    · have h3 : ((own : Int) == 0) = false := by simp; omega
      have H2 := hide h2
      clear h2
      go_wp2_with fail
      go_ret
      exact ⟨by rw [← unhide HE, opE, if_neg (unhide HN), if_pos (unhide H2)]; rfl, unhide HR2, unhide HK2⟩
end Go.Proofs.YtejchncdimcdbaaGreatDoor
