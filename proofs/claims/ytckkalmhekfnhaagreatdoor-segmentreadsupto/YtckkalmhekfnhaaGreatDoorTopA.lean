import Derived.Test.YtckkalmhekfnhaaGreatDoorQKeep
import Derived.Deep.MidRow
import Derived.Test.YtckkalmhekfnhaaGreatDoorEDecB
import Derived.Lib.SlBytesConst
import Derived.Test.YtckkalmhekfnhaaGreatDoorSNum
import Derived.Test.YtckkalmhekfnhaaGreatDoorFEnc
import Derived.Test.YtckkalmhekfnhaaGreatDoorAApp
import Derived.Laws.ShiftsVarLaws
import Derived.Test.YtckkalmhekfnhaaGreatDoorSame
import Derived.Test.YtckkalmhekfnhaaGreatDoorJoin
import Derived.Laws.Cover3
import Derived.Test.YtckkalmhekfnhaaGreatDoorQRow
import Derived.Deep.RegionHeld3
import Derived.Test.YtckkalmhekfnhaaGreatDoorCat
import Derived.Test.YtckkalmhekfnhaaGreatDoorQTail
import Derived.Deep.Cut
/-
  A row in the midst of a block, read within a quiet walk.
-/
namespace Go.Proofs.YtckkalmhekfnhaaGreatDoor
open Go Go.RowKit Go.BigFrame

theorem wpQuiet_mid {P : Program} {ops : Array Oper} {C : World → Prop} {Q : Act → Prop} {a : Act} {o : Oper} {rest : List Oper} (hw : Region.wanted o (yielded ops a.tmps) = true) (ty : TypeId) (x : Operand) (ho : o.op = .load ty x)
    (b off : Nat) (hx : a.eval x = .pointer (some ⟨b, off, none⟩)) (cs : List Value) (d : TypeDesc) (hg : ∀ w, C w → w.rangeAt b off cs)
    (hu : P.underlying ty = some d) (hd : d.isRow = true) (hi : (P.info? ty).map (·.size) = some cs.length)
    (h : wpQuiet P ops C Q rest (a.put o.dst (.agg cs.toArray))) : wpQuiet P ops C Q (o :: rest) a := by
  refine wpQuiet_want hw fun K hK => ⟨.agg cs.toArray, fun w hw => ?_, hK _ h⟩
  unfold Oper.quietAt execOp
  simp only [ho]
  have := run_loadVar_mid (P := P) w b off ty cs d (hg w hw) hu hd hi
  simp only [hx, Instr.loadAt, Instr.sureAddr, Sem.run_bind, Sem.run_pure, Result.andThen_ok, this, Oper.quietUpon, and_self]
end Go.Proofs.YtckkalmhekfnhaaGreatDoor
namespace Go.Proofs.YtckkalmhekfnhaaGreatDoor
open Go.RowKit Go.BigFrame
set_option linter.unusedVariables false
set_option linter.unusedSimpArgs false

theorem take_same {α : Type} (a b : List α) (i : Nat) (ha : i < a.length) (hb : i < b.length) (h : a.take i = b.take i) (x : a[i] = b[i]) : a.take (i + 1) = b.take (i + 1) := by
  rw [List.take_succ_eq_append_getElem ha, List.take_succ_eq_append_getElem hb, h, x]

set_option maxRecDepth 100000 in
set_option maxHeartbeats 1000000 in
theorem sameEntries_any (u v : Value) (es fs : List En) (w : World) (hu : RdN w u es) (hv : RdN w v fs) :
    Calls Tryz.prog 47 #[u, v] w fun r w' => r = .returned (.bool (decide (es = fs))) ∧ Kept [] w w' := by
  obtain ⟨ao, len, cap, kv, vv, rfl, h1, h2, h3, h4, h5⟩ := hu
  obtain ⟨ao', len', cap', kv', vv', rfl, g1, g2, g3, g4, g5⟩ := hv
  have H4 := hide h4
  have H5 := hide h5
  have G4 := hide g4
  have G5 := hide g5
  clear h4 h5 g4 g5
  subst h1
  subst g1
  go_enter Tryz.func47, Tryz.ntmps47
  by_cases hl : es.length = fs.length
  · have hb : ((es.length : Int) != (fs.length : Int)) = false := by rw [hl]; simp
    have HL := hide hl
    clear hl
    go_wp2_with fail
    go_loopw [5] (fun t12 wr => ∃ (i : Nat), i ≤ es.length ∧ t12 = .int .i64 i ∧ Hid (es.take i = fs.take i) ∧ Hid (Kept [] w wr)) (fun t _ => es.length - (intOf t).toNat)
    case atStart => exact ⟨0, Nat.zero_le _, rfl, hide (by simp), hide (Kept.refl _ _)⟩
    case round =>
      obtain ⟨i, hi, rfl, HA, HK⟩ := hrel
      by_cases hlt : i < es.length
      · have hlt' : (i : Int) < es.length := by omega
        have hle : i < fs.length := by rw [← unhide HL]; exact hlt
        have hle' : (i : Int) < fs.length := by omega
        obtain ⟨b, o, rfl, hcell⟩ := unhide H5 (by omega)
        obtain ⟨b', o', rfl, gcell⟩ := unhide G5 (by omega)
        have HRG := hide (rangeE_kept (hcell i hlt) (unhide HK) (by simp))
        have GRG := hide (rangeE_kept (gcell i hle) (unhide HK) (by simp))
        have HO := hide ((unhide H4 i hlt).old (unhide HK))
        have GO := hide ((unhide G4 i hle).old (unhide HK))
        have HN := hide (fun (h : es[i] = fs[i]) => take_same es fs i hlt hle (unhide HA) h)
        have HM := hide (fun (h : ¬ es[i] = fs[i]) => decide_eq_false (fun e => h (by simp [e]) : ¬ es = fs))
        clear hcell gcell
        generalize kv i = k1 at HRG HO
        generalize vv i = v1 at HRG HO
        generalize kv' i = k2 at GRG GO
        generalize vv' i = v2 at GRG GO
        generalize es[i] = x at HRG HO HN HM
        generalize fs[i] = y at GRG GO HN HM
        have HS1 := hide (by rw [Array.length_toList, enC_size]; exact Tryz.size_entry : (Tryz.prog.info? 71).map (·.size) = some (enC x k1 v1).toList.length)
        have HS2 := hide (by rw [Array.length_toList, enC_size]; exact Tryz.size_entry : (Tryz.prog.info? 71).map (·.size) = some (enC y k2 v2).toList.length)
        have HC1 := hide (fun w' (hw' : Kept [] wr w') => (sameEntry_any x y k1 v1 k2 v2 w' ((unhide HO).old hw') ((unhide GO).old hw')).mono (fun e w2 (h2 : _ ∧ _) => (⟨h2.1, hw'.trans h2.2 (by simp)⟩ : _ ∧ Kept [] wr w2)))
        by_cases hdd : x = y
        · rw [decide_eq_true hdd] at HC1
          have HDD := hide hdd
          clear hdd
          have hne : ∀ p : Prop, (∀ w', Kept [] wr w' → p) = p := fun p => propext ⟨fun h => h wr (Kept.refl [] wr), fun h _ _ => h⟩
          go_wp2_with fail
          refine wp_region_keep (by kernel_rfl) (by kernel_rfl) ?_
          iterate 3 (go_big_quiet_step (fail))
          refine wpQuiet_mid rfl 71 _ rfl b (o + i * 3) rfl (enC x k1 v1).toList _ (fun w' hw' => rangeE_kept (unhide HRG) hw' (by simp)) Tryz.underlying71 rfl (unhide HS1) ?_
          simp only [Act.put, List.setIfInBounds_toArray, List.set_cons_succ, List.set_cons_zero]
          iterate 3 (go_big_quiet_step (fail))
          refine wpQuiet_mid rfl 71 _ rfl b' (o' + i * 3) rfl (enC y k2 v2).toList _ (fun w' hw' => rangeE_kept (unhide GRG) hw' (by simp)) Tryz.underlying71 rfl (unhide HS2) ?_
          simp only [Act.put, List.setIfInBounds_toArray, List.set_cons_succ, List.set_cons_zero]
          go_big_quiet_want
          go_big_quiet_op
          apply Exists.intro
          refine ⟨fun w' hw' => ?_, ?_⟩
          · exact unhide HC1 w' hw'
          go_big_quiet_on
          repeat (go_big_quiet_step (fail))
          refine wpQuiet_nil ?_
          intro w6 hw6
          have HK6 := hide ((unhide HK).trans hw6 (by simp))
          clear hw6 hne
          go_wp2
          refine ⟨⟨i + 1, by omega, by go_num, hide (unhide HN (unhide HDD)), HK6⟩, ?_⟩
          simp [intOf]; omega
        · rw [decide_eq_false hdd] at HC1
          have HDD := hide hdd
          clear hdd
          have hne : ∀ p : Prop, (∀ w', Kept [] wr w' → p) = p := fun p => propext ⟨fun h => h wr (Kept.refl [] wr), fun h _ _ => h⟩
          go_wp2_with fail
          refine wp_region_keep (by kernel_rfl) (by kernel_rfl) ?_
          iterate 3 (go_big_quiet_step (fail))
          refine wpQuiet_mid rfl 71 _ rfl b (o + i * 3) rfl (enC x k1 v1).toList _ (fun w' hw' => rangeE_kept (unhide HRG) hw' (by simp)) Tryz.underlying71 rfl (unhide HS1) ?_
          simp only [Act.put, List.setIfInBounds_toArray, List.set_cons_succ, List.set_cons_zero]
          iterate 3 (go_big_quiet_step (fail))
          refine wpQuiet_mid rfl 71 _ rfl b' (o' + i * 3) rfl (enC y k2 v2).toList _ (fun w' hw' => rangeE_kept (unhide GRG) hw' (by simp)) Tryz.underlying71 rfl (unhide HS2) ?_
          simp only [Act.put, List.setIfInBounds_toArray, List.set_cons_succ, List.set_cons_zero]
          go_big_quiet_want
          go_big_quiet_op
          apply Exists.intro
          refine ⟨fun w' hw' => ?_, ?_⟩
          · exact unhide HC1 w' hw'
          go_big_quiet_on
          repeat (go_big_quiet_step (fail))
          refine wpQuiet_nil ?_
          intro w6 hw6
          have HK6 := hide ((unhide HK).trans hw6 (by simp))
          clear hw6 hne
          go_wp2
          go_ret
          exact ⟨by rw [unhide HM (unhide HDD)]; rfl, unhide HK6⟩
      · have hlt' : ¬ (i : Int) < es.length := by omega
        have hie : i = es.length := by omega
        subst hie
        have HE := hide (decide_eq_true (by have h9 := unhide HA; rw [List.take_length, unhide HL, List.take_length] at h9; exact h9 : es = fs))
        go_wp2
        go_ret
        exact ⟨by rw [unhide HE]; rfl, unhide HK⟩
  · have hb : ((es.length : Int) != (fs.length : Int)) = true := by rw [bne_iff_ne]; omega
    have HE := hide (decide_eq_false (fun e => hl (by rw [e]) : ¬ es = fs))
    clear hl
    go_wp2
    go_ret
    exact ⟨by rw [unhide HE]; rfl, Kept.refl _ _⟩

set_option maxRecDepth 100000 in
set_option maxHeartbeats 1000000 in
theorem sameBatch_any (f g : Nat) (u v : Value) (es fs : List En) (w : World) (hu : RdN w u es) (hv : RdN w v fs) :
    Calls Tryz.prog 28 #[.agg #[.int .u64 f, u], .agg #[.int .u64 g, v]] w fun r w' => r = .returned (.bool (decide (f = g) && decide (es = fs))) ∧ Kept [] w w' := by
  have HU := hide hu
  have HV := hide hv
  obtain ⟨X, hX⟩ : ∃ X, decide (es = fs) = X := ⟨_, rfl⟩
  rw [hX]
  have HX := hide hX
  clear hX
  obtain ⟨a1, m1, c1, _, _, rfl, _⟩ := hu
  obtain ⟨a2, m2, c2, _, _, rfl, _⟩ := hv
  have HK0 := hide (((Kept.refl [] w).alloc (.cells #[.int .u64 (f : Int), .slice a1 m1 c1] 35)).alloc (.cells #[.int .u64 (g : Int), .slice a2 m2 c2] 35))
  go_enter Tryz.func28, Tryz.ntmps28
  by_cases hk : f = g
  · have e1 : ((f : Int) == (g : Int)) = true := by rw [hk]; simp
    rw [decide_eq_true hk]
    have HKE := hide hk
    clear hk
    go_wp2_with fail
    refine Calls.mono (sameEntries_any _ _ es fs _ ((unhide HU).old (unhide HK0)) ((unhide HV).old (unhide HK0))) ?_
    rintro r w1 ⟨rfl, k1⟩
    rw [unhide HX]
    have HK1 := hide ((unhide HK0).trans k1 (by simp))
    clear k1
    go_wp2
    go_ret
    exact ⟨by simp, unhide HK1⟩
  · have e1 : ((f : Int) == (g : Int)) = false := by rw [beq_eq_false_iff_ne]; omega
    rw [decide_eq_false hk]
    clear hk
    go_wp2
    go_ret
    exact ⟨by simp, unhide HK0⟩
end Go.Proofs.YtckkalmhekfnhaaGreatDoor
namespace Go.Proofs.YtckkalmhekfnhaaGreatDoor
open Go.RowKit Go.BigFrame
set_option linter.unusedVariables false
set_option linter.unusedSimpArgs false

end Go.Proofs.YtckkalmhekfnhaaGreatDoor
namespace Go.Proofs.YtckkalmhekfnhaaGreatDoor
open Go.RowKit Go.BigFrame
set_option linter.unusedVariables false
set_option linter.unusedSimpArgs false

theorem rd_row {w : World} {g : Nat} (bs : List Nat) {cs : Array Value} {fr : Nat × Nat} (h : w.heap[g]? = some (.cells cs 5 fr)) (hc : cs = (bs.map u8).toArray) (hb : ∀ x ∈ bs, x < 256) (n : Nat) (hn : bs.length = n) (hl : n ≤ 140737488355328) : Rd w (.slice (some ⟨g, 0, none⟩) n n) bs := by
  refine ⟨_, n, n, rfl, hn, Nat.le_refl _, ⟨by omega, hl⟩, fun h => by simp at h, hb, fun hp => ⟨g, 0, rfl, fun i hi => ?_⟩⟩
  subst hc
  have hi' : i < bs.length := by omega
  rw [cell_of_row _ _ _ _ _ _ h, Nat.zero_add, List.getElem?_toArray, List.getElem?_map, List.getElem?_eq_getElem hi', List.getD_eq_getElem?_getD, List.getElem?_eq_getElem hi']
  rfl
theorem RdN.one {w : World} {g : Nat} {e : En} {kv vv : Value} {t : TypeId} {fr : Nat × Nat} (h : w.heap[g]? = some (.cells (enC e kv vv) t fr)) (ho : OkE w e kv vv) : RdN w (.slice (some ⟨g, 0, none⟩) 1 1) [e] := by
  refine ⟨_, 1, 1, fun _ => kv, fun _ => vv, rfl, rfl, Nat.le_refl _, by omega, fun i hi => ?_, fun _ => ⟨g, 0, rfl, fun i hi => ?_⟩⟩
  · have : i = 0 := by simpa using hi
    subst this; exact ho
  · have : i = 0 := by simpa using hi
    subst this
    intro j v hv
    rw [cell_of_row _ _ _ _ _ _ h, Nat.zero_mul, Nat.add_zero, Nat.zero_add, ← Array.getElem?_toList]
    exact hv
theorem heap_alloc3e (w : World) (a b c : Obj) : (((w.alloc a).alloc b).alloc c).heap[w.heap.size]? = some a ∧ (((w.alloc a).alloc b).alloc c).heap[w.heap.size + 1]? = some b ∧ (((w.alloc a).alloc b).alloc c).heap[w.heap.size + 1 + 1]? = some c := by
  refine ⟨?_, ?_, ?_⟩
  · exact (((Kept.refl [] (w.alloc a)).alloc b).alloc c).heap (heap_alloc_new w a) (by simp)
  · exact ((Kept.refl [] ((w.alloc a).alloc b)).alloc c).heap (alloc_at w a b) (by simp)
  · have h9 := alloc_at (w.alloc a) b c
    rw [show (w.alloc a).heap.size = w.heap.size + 1 from Array.size_push _] at h9
    exact h9
theorem decE_k : decE [1, 1, 107, 1, 118] = (⟨1, [107], [118]⟩, 0) := by decide +kernel
theorem decB_k : decB [172, 2, 1, 2, 0] = (300, [⟨2, [], []⟩], 0) := by decide +kernel
theorem chkB_k : chkB 300 [⟨2, [], []⟩] = 0 := by decide
theorem uv300 : uv 300 = [172, 2] := by rw [uv_ge (by decide), uv_lt (by decide)]
theorem batB_k : batB 300 [⟨2, [], []⟩] = [172, 2, 1, 2, 0] := by
  unfold batB entB enB
  rw [uv300]
  simp [uv_lt]
theorem enB_k : enB ⟨1, [107], [118]⟩ = [1, 1, 107, 1, 118] := by
  unfold enB
  simp [uv_lt]

end Go.Proofs.YtckkalmhekfnhaaGreatDoor
namespace Go.Proofs.YtckkalmhekfnhaaGreatDoor
open Go.RowKit Go.BigFrame
set_option linter.unusedVariables false
set_option linter.unusedSimpArgs false

def wideB (z : Int) : Bool := decide (1 ≤ z ∧ z ≤ 32)

set_option maxRecDepth 100000 in
theorem isWidth_any (z : Int) (w : World) : Calls Tryz.prog 33 #[.int .i64 z] w fun e w' => e = .returned (.bool (wideB z)) ∧ w' = w := by
  by_cases h1 : 1 ≤ z
  · by_cases h2 : z ≤ 32
    · have hb : wideB z = true := by simp [wideB, h1, h2]
      rw [hb]
      clear hb
      go_enter Tryz.func33, Tryz.ntmps33
      go_wp2
      go_ret
      exact ⟨rfl, rfl⟩
    · have hb : wideB z = false := by simp [wideB, h1]; omega
      have h2' : decide (z ≤ 32) = false := by simpa using h2
      rw [hb]
      clear hb
      go_enter Tryz.func33, Tryz.ntmps33
      go_wp2
      go_ret
      exact ⟨rfl, rfl⟩
  · have hb : wideB z = false := by simp [wideB]; omega
    have h1' : decide (1 ≤ z) = false := by simpa using h1
    rw [hb]
    clear hb
    go_enter Tryz.func33, Tryz.ntmps33
    go_wp2
    go_ret
    exact ⟨rfl, rfl⟩

/-- A list that may be appended to: owned, or without room. -/
def AppOk (base : Nat) (w : World) (v : Value) (bs : List Nat) : Prop := w.ownsRow base 5 1 v bs.length (bs.map u8) ∨ ∃ g, v = .slice (some ⟨g, 0, none⟩) bs.length bs.length ∧ Rd w v bs
theorem AppOk.pass {base : Nat} {w w' : World} {v : Value} {bs : List Nat} (h : AppOk base w v bs) (k : Kept [] w w') : AppOk base w' v bs := by
  rcases h with h | ⟨g, h1, h2⟩
  · exact .inl (k.owns h (by simp))
  · exact .inr ⟨g, h1, h2.old k (by simp)⟩
/-- One byte more. -/
theorem pushA (w0 w : World) (v : Value) (bs : List Nat) (z : Nat) (H : Nat) (k : Kept [] w0 w) (h : AppOk w0.heap.size w v bs) (hnew : w.heap[H]? = some (.cells #[.int .u8 (z : Int)] 5 (0, 0))) (hz : z < 256) (hl : bs.length + 1 ≤ 1000000000) :
    ∃ ao cap w1, (Builtin.append_ #[36, 36] 36 #[v, .slice (some ⟨H, 0, none⟩) 1 1]).run Tryz.prog w = .ok (.slice ao (bs.length + 1) cap) w1 ∧
      w1.ownsRow w0.heap.size 5 1 (.slice ao (bs.length + 1) cap) (bs ++ [z]).length ((bs ++ [z]).map u8) ∧ Kept [] w0 w1 := by
  have hr : Rd w (.slice (some ⟨H, 0, none⟩) 1 1) [z] := rd_lit hnew rfl (by simpa using hz) 1 rfl (by omega)
  rcases h with h | ⟨g, rfl, h2⟩
  · obtain ⟨ao, cap, w1, hrun, ho, hg, _⟩ := appendAll w w0.heap.size v bs [z] _ 1 1 h hr (by simp; omega) k.size
    exact ⟨ao, cap, w1, hrun, ho, k.grown hg (fun j hj => .inr (h.lt j hj).1)⟩
  · obtain ⟨i0, hi, hz0, hz1, hz2⟩ := info_parts Tryz.info5
    have hold : ∀ j u, (bs.map u8)[j]? = some u → w.cell? (Addr.add ⟨g, 0, none⟩ j) = some u := by
      intro j u hj
      by_cases h0 : 0 < (bs.map u8).length
      · obtain ⟨ad', e, hc⟩ := h2.src h0
        cases e
        exact hc j u hj
      · have : bs.map u8 = [] := List.eq_nil_of_length_eq_zero (by omega)
        rw [this] at hj; simp at hj
    have hnews : ∀ j u, ([z].map u8)[j]? = some u → w.cell? (Addr.add ⟨H, 0, none⟩ j) = some u := by
      intro j u hj
      obtain ⟨ad', e, hc⟩ := hr.src (by simp)
      cases e
      exact hc j u hj
    obtain ⟨v', w1, hrun, hown, hgrow⟩ := run_append_arg_grows (P := Tryz.prog) w 36 36 5 i0 (.int .u8 0) 1 1 Tryz.underlying36 hi hz0 hz1 hz2 rfl (by decide)
      ⟨g, 0, none⟩ bs.length bs.length (bs.map u8) (by simp) hold ⟨H, 0, none⟩ 1 1 ([z].map u8) (by simp) hnews (by omega) (by unfold maxLen; omega) (by omega)
    obtain ⟨ao', cap', rfl⟩ := owns_shape hown
    exact ⟨ao', cap', w1, hrun, by rw [List.length_append, List.map_append]; exact owns_base hown k.size, k.trans ((Kept.refl [] w).grown hgrow (by simp)) (by simp)⟩
theorem wpList_pushA {ops : Array Oper} {rest : List Oper} {o : Oper} {a : Act} {Q : Exit → Act → World → Prop} (hgd : o.guard = none) (s x : Operand)
    (ho : o.op = .call { callee := .builtin .append, args := #[s, x], argTypes := #[36, 36] }) (hty : o.type = 36)
    (w0 w : World) (v : Value) (bs : List Nat) (z : Nat) (H : Nat) (k : Kept [] w0 w) (h : AppOk w0.heap.size w v bs) (hnew : w.heap[H]? = some (.cells #[.int .u8 (z : Int)] 5 (0, 0))) (hz : z < 256) (hl : bs.length + 1 ≤ 1000000000)
    (hs : a.eval s = v) (hx : a.eval x = .slice (some ⟨H, 0, none⟩) 1 1)
    (hK : ∀ ao cap w1, Hid (w1.ownsRow w0.heap.size 5 1 (.slice ao (bs.length + 1) cap) (bs ++ [z]).length ((bs ++ [z]).map u8)) → Hid (Kept [] w0 w1) → wpList Tryz.prog ops Q rest (a.put o.dst (.slice ao (bs.length + 1) cap)) w1) :
    wpList Tryz.prog ops Q (o :: rest) a w := by
  obtain ⟨ao, cap, w1, hrun, h2, h3⟩ := pushA w0 w v bs z H k h hnew hz hl
  refine wpList_plain hgd fun K hK' => ?_
  unfold Oper.wp execOp
  simp only [ho, hty, resolve, invoke, builtin, Sem.run_bind, Sem.run_pure, Result.andThen_ok, List.map_toArray, List.map_cons, List.map_nil, hs, hx, hrun]
  exact hK' _ _ (hK ao cap w1 h2 h3)
theorem AppOk.shape {base : Nat} {w : World} {v : Value} {bs : List Nat} (h : AppOk base w v bs) : ∃ ao cap, v = .slice ao bs.length cap := by
  rcases h with h | ⟨g, h1, h2⟩
  · exact owns_shape h
  · exact ⟨_, _, h1⟩

set_option maxRecDepth 100000 in
set_option maxHeartbeats 2000000 in
theorem appendNumber_any (w0 w : World) (v : Value) (bs : List Nat) (x : Nat) (k : Kept [] w0 w) (h : AppOk w0.heap.size w v bs) (hl : bs.length ≤ 1000000) :
    Calls Tryz.prog 34 #[v, .int .u64 x] w fun e w' => ∃ v', e = .returned v' ∧ AppOk w0.heap.size w' v' (bs ++ wide x 8) ∧ Kept [] w0 w' := by
  have HH := hide h
  have HK := hide k
  clear h k
  go_enter Tryz.func34, Tryz.ntmps34
  go_wp2_with fail
  go_loopw [0, 5] (fun t0 t5 wr => ∃ (k : Nat) (cur : List Nat), t5 = .int .i64 ((k : Int) - 1) ∧ k ≤ 8 ∧ Hid (cur ++ wide x k = bs ++ wide x 8) ∧ Hid (AppOk w0.heap.size wr t0 cur) ∧ Hid (Kept [] w0 wr)) (fun _ t _ => (intOf t + 1).toNat)
  case atStart => exact ⟨8, bs, rfl, Nat.le_refl _, rfl, HH, HK⟩
  case round =>
    obtain ⟨k, cur, rfl, hk, Hp, HA, HK1⟩ := hrel
    have hlen : cur.length + k ≤ 1000008 := by have h1 := congrArg List.length (unhide Hp); simp [wide_len] at h1; omega
    by_cases h0 : k = 0
    · subst h0
      go_wp2
      go_ret
      have h1 : cur = bs ++ wide x 8 := by have h2 := unhide Hp; rw [show wide x 0 = [] from rfl, List.append_nil] at h2; exact h2
      exact ⟨_, rfl, by rw [← h1]; exact unhide HA, unhide HK1⟩
    · obtain ⟨j, rfl⟩ : ∃ j, k = j + 1 := ⟨k - 1, by omega⟩
      have e1 : (((j + 1 : Nat) : Int) - 1) = (j : Int) := by omega
      rw [e1]
      have hj0 : (0 : Int) ≤ (j : Int) := by omega
      have hj8 : (j : Int) ≤ 7 := by omega
      obtain ⟨q, hq⟩ : ∃ q, q = x / 256 ^ j := ⟨_, rfl⟩
      have hsh := shr8 x j (by omega)
      rw [← hq] at hsh
      have Hq := hide hq
      clear hq
      have hz1 : IntKind.u8.wrap (q : Int) = ((q % 256 : Nat) : Int) := by rw [IntKind.wrap_u8']; omega
      have hz2 : (q : Int) % 256 = ((q % 256 : Nat) : Int) := by omega
      have HZ := hide (Nat.mod_lt q (by decide : 0 < 256))
      obtain ⟨y, hy⟩ : ∃ y, q % 256 = y := ⟨_, rfl⟩
      rw [hy] at hz1 hz2 HZ
      have HY := hide hy
      have hval : (x : Int) / 2 ^ (8 * j) % 256 = (y : Int) := by
        have h1 : (x : Int) / 2 ^ (8 * j) = (q : Int) := by rw [unhide Hq, Int.pow_mul]; simp
        rw [h1, hz2]
      clear hy
      obtain ⟨ao, cap, he⟩ := (unhide HA).shape
      subst he
      go_wp2_with (at_builtin; go_must (refine wpList_pushA rfl (.tmp 10) (.tmp 16) rfl rfl w0 _ (.slice ao cur.length cap) cur y wr.heap.size ((unhide HK1).alloc _) ((unhide HA).pass ((Kept.refl [] wr).alloc _)) (heap_alloc_new _ _) (unhide HZ) (by omega) rfl rfl ?_; intro ao2 cap2 w2 HO2 HK2))
      go_roundw
      case rel => exact ⟨j, cur ++ [y], rfl, by omega, hide (by rw [← unhide Hp, ← unhide HY, unhide Hq]; simp [wide]), hide (.inl (unhide HO2)), HK2⟩
      case measure => simp [intOf]
theorem hcells {w : World} {b : Nat} {x0 x1 x2 x3 : Value} {t : TypeId} (h : w.heap[b]? = some (.cells #[x0, x1, x2, x3] t (0, 0))) : w.cell? ⟨b, 0, none⟩ = some x0 ∧ w.cell? ⟨b, 1, none⟩ = some x1 ∧ w.cell? ⟨b, 2, none⟩ = some x2 ∧ w.cell? ⟨b, 3, none⟩ = some x3 := by
  refine ⟨?_, ?_, ?_, ?_⟩ <;> rw [cell_of_row _ _ _ _ _ _ h] <;> rfl
/-- A head's payload. -/
def headB (a b c : Nat) (z : Int) : List Nat := [78, 84, 82, 89, 49] ++ wide a 8 ++ wide b 8 ++ wide c 8 ++ [(z % 256).toNat]
theorem headB_eq (a b c : Nat) (z : Int) : headB a b c z = [78, 84, 82, 89, 49] ++ wide a 8 ++ wide b 8 ++ wide c 8 ++ [(z % 256).toNat] := rfl
theorem headB_len (a b c : Nat) (z : Int) : (headB a b c z).length = 30 := by simp [headB, wide_len]
/-- What EncodeHead answers. -/
def ehE (z : Int) : Nat := if wideB z then 0 else 1
def ehB (a b c : Nat) (z : Int) : List Nat := if wideB z then frB a (headB a b c z) else []

set_option maxRecDepth 100000 in
set_option maxHeartbeats 2000000 in
theorem encodeHead_any (a b c : Nat) (z : Int) (w : World) (ha : a < 18446744073709551616) (hz : -9223372036854775808 ≤ z ∧ z ≤ 9223372036854775807) :
    Calls Tryz.prog 14 #[.agg #[.int .u64 a, .int .u64 b, .int .u64 c, .int .i64 z]] w fun e w' => ∃ v', e = .returned (.tuple #[v', .int .i64 (ehE z)]) ∧ NewB w w' v' (ehB a b c z) ∧ Kept [] w w' := by
  have HK0 := hide ((Kept.refl [] w).alloc (.cells #[.int .u64 a, .int .u64 b, .int .u64 c, .int .i64 z] 32))
  have HB0 := hide (heap_alloc_new w (.cells #[.int .u64 a, .int .u64 b, .int .u64 c, .int .i64 z] 32))
  by_cases hw : wideB z = true
  · have hE : ehE z = 0 := by simp [ehE, hw]
    have hB : ehB a b c z = frB a (headB a b c z) := by simp [ehB, hw]
    rw [hE, hB]
    clear hE hB
    have hzz : 1 ≤ z ∧ z ≤ 32 := by simpa [wideB] using hw
    have kc : (convert 36 36 (.slice (some ⟨w.heap.size + 1, 0, none⟩) 5 5)).run Tryz.prog ((w.alloc (.cells #[.int .u64 a, .int .u64 b, .int .u64 c, .int .i64 z] 32)).alloc (.cells #[.int .u8 78, .int .u8 84, .int .u8 82, .int .u8 89, .int .u8 49] 5)) = .ok (.slice (some ⟨w.heap.size + 1, 0, none⟩) 5 5) ((w.alloc (.cells #[.int .u64 a, .int .u64 b, .int .u64 c, .int .i64 z] 32)).alloc (.cells #[.int .u8 78, .int .u8 84, .int .u8 82, .int .u8 89, .int .u8 49] 5 (5, 6))) := by
      have h9 := Lib.run_convert_bytes_const (P := Tryz.prog) (w.alloc (.cells #[.int .u64 a, .int .u64 b, .int .u64 c, .int .i64 z] 32)) 36 5 #[.int .u8 78, .int .u8 84, .int .u8 82, .int .u8 89, .int .u8 49] 5 5 Tryz.underlying36 Tryz.underlying5
      rw [show (w.alloc (.cells #[.int .u64 a, .int .u64 b, .int .u64 c, .int .i64 z] 32)).heap.size = w.heap.size + 1 by simp] at h9
      exact h9
    go_enter Tryz.func14, Tryz.ntmps14
    go_wp2_with fail
    refine Calls.mono (isWidth_any z _) ?_
    rintro e w1 ⟨rfl, rfl⟩
    rw [hw]
    go_wp2_with fail
    obtain ⟨W1, hW1⟩ : ∃ W, w.alloc (.cells #[.int .u64 a, .int .u64 b, .int .u64 c, .int .i64 z] 32) = W := ⟨_, rfl⟩
    have hs1 : W1.heap.size = w.heap.size + 1 := by rw [← hW1]; simp
    rw [hW1] at HK0 HB0 ⊢
    have HS1 := hide hs1
    clear hW1 hs1 kc
    obtain ⟨W2, hW2⟩ : ∃ W, W1.alloc (.cells #[.int .u8 78, .int .u8 84, .int .u8 82, .int .u8 89, .int .u8 49] 5 (5, 6)) = W := ⟨_, rfl⟩
    have HK2 := hide (by rw [← hW2]; exact (Kept.refl [] W1).alloc _ : Kept [] W1 W2)
    have HR2 := hide (by rw [← hW2, ← unhide HS1]; exact rd_row [78, 84, 82, 89, 49] (heap_alloc_new W1 _) rfl (by decide) 5 rfl (by decide) : Rd W2 (.slice (some ⟨w.heap.size + 1, 0, none⟩) 5 5) [78, 84, 82, 89, 49])
    rw [hW2]
    clear hW2
    obtain ⟨d0, d1, d2, d3⟩ := hcells ((unhide HK2).heap (unhide HB0) (by simp))
    refine Calls.mono (appendNumber_any W1 W2 _ [78, 84, 82, 89, 49] a (unhide HK2) (.inr ⟨_, rfl, unhide HR2⟩) (by decide)) ?_
    rintro e w3 ⟨v3, rfl, o3, k3⟩
    obtain ⟨a3, c3, rfl⟩ := o3.shape
    have HO3 := hide o3
    have HK3 := hide k3
    clear o3 k3 d0 d1 d2 d3 HR2 HK2
    obtain ⟨d0, d1, d2, d3⟩ := hcells ((unhide HK3).heap (unhide HB0) (by simp))
    go_wp2_with fail
    refine Calls.mono (appendNumber_any W1 w3 _ _ b (unhide HK3) (unhide HO3) (by simp [wide_len])) ?_
    rintro e w4 ⟨v4, rfl, o4, k4⟩
    obtain ⟨a4, c4, rfl⟩ := o4.shape
    have HO4 := hide o4
    have HK4 := hide k4
    clear o4 k4 d0 d1 d2 d3 HO3 HK3
    obtain ⟨d0, d1, d2, d3⟩ := hcells ((unhide HK4).heap (unhide HB0) (by simp))
    go_wp2_with fail
    refine Calls.mono (appendNumber_any W1 w4 _ _ c (unhide HK4) (unhide HO4) (by simp [wide_len])) ?_
    rintro e w5 ⟨v5, rfl, o5, k5⟩
    obtain ⟨a5, c5, rfl⟩ := o5.shape
    have HO5 := hide o5
    have HK5 := hide k5
    clear o5 k5 d0 d1 d2 d3 HO4 HK4
    have hbl : ([78, 84, 82, 89, 49] ++ wide a 8 ++ wide b 8 ++ wide c 8).length = 29 := by simp [wide_len]
    have HHB := hide (headB_eq a b c z)
    generalize [78, 84, 82, 89, 49] ++ wide a 8 ++ wide b 8 ++ wide c 8 = bs at HO5 HHB hbl
    obtain ⟨y, hy⟩ : ∃ y : Nat, z = (y : Int) := ⟨z.toNat, by omega⟩
    subst hy
    have hy2 : ((y : Int) % 256).toNat = y := by omega
    rw [hy2] at HHB
    have hval : (y : Int) % 256 = (y : Int) := by omega
    have HLB := hide hbl
    have hyl : y < 256 := by omega
    have HYL := hide hyl
    obtain ⟨d0, d1, d2, d3⟩ := hcells ((unhide HK5).heap (unhide HB0) (by simp))
    clear hbl hy2 hyl
    go_wp2_with (at_builtin; go_must (refine wpList_pushA rfl (.tmp 23) (.tmp 27) rfl rfl W1 _ _ bs y w5.heap.size ((unhide HK5).alloc _) (by exact (unhide HO5).pass ((Kept.refl [] w5).alloc _)) (heap_alloc_new _ _) (unhide HYL) (by rw [unhide HLB]; omega) rfl rfl ?_; intro a6 c6 w6 HO6 HK6; obtain ⟨x0, x1, x2, x3⟩ := hcells ((unhide HK6).heap (unhide HB0) (by simp))))
    have HK0w := hide (unhide HK6)
    have hby : ∀ x ∈ bs ++ [y], x < 256 := by
      have h9 : ∀ x ∈ headB a b c (y : Int), x < 256 := by
        intro x hx
        unfold headB at hx
        simp only [List.mem_append, List.mem_cons, List.not_mem_nil, or_false] at hx
        rcases hx with ((((h | h | h | h | h) | h) | h) | h) | h
        · omega
        · omega
        · omega
        · omega
        · omega
        · exact wide_byte _ _ x h
        · exact wide_byte _ _ x h
        · exact wide_byte _ _ x h
        · omega
      rw [unhide HHB] at h9; exact h9
    have HR6 := hide (rd_owns (unhide HO6) hby (by rw [List.length_append, unhide HLB]; simp))
    clear hby d0 d1 d2 d3
    refine Calls.mono (encode_any a _ (bs ++ [y]) w6 (unhide HR6) ha) ?_
    rintro e w7 ⟨v7, rfl, n7, k7⟩
    have hel : (bs ++ [y]).length = 30 := by rw [List.length_append, unhide HLB]; rfl
    have hee : encE (bs ++ [y]) = 0 := by unfold encE; rw [hel]; rfl
    have heb : encB a (bs ++ [y]) = frB a (bs ++ [y]) := by unfold encB; rw [hee]; rfl
    rw [heb] at n7
    rw [hee]
    have HN7 := hide (n7.weak (w0 := w) (Nat.le_trans (unhide HK0).size (unhide HK6).size))
    have HK7 := hide (((unhide HK0).trans (unhide HK6) (by simp)).trans k7 (by simp))
    clear n7 k7 hel hee heb
    go_wp2
    go_ret2
    exact ⟨_, rfl, by rw [unhide HHB]; exact unhide HN7, unhide HK7⟩
  · have hw' : wideB z = false := by simpa using hw
    have hE : ehE z = 1 := by simp [ehE, hw']
    have hB : ehB a b c z = [] := by simp [ehB, hw']
    rw [hE, hB]
    clear hE hB hw
    go_enter Tryz.func14, Tryz.ntmps14
    go_wp2_with fail
    refine Calls.mono (isWidth_any z _) ?_
    rintro e w1 ⟨rfl, rfl⟩
    rw [hw']
    go_wp2
    go_ret2
    exact ⟨_, rfl, NewB.nil _ _, unhide HK0⟩
end Go.Proofs.YtckkalmhekfnhaaGreatDoor

namespace Go.Proofs.YtckkalmhekfnhaaGreatDoor
open Go.RowKit
set_option linter.unusedVariables false
set_option linter.unusedSimpArgs false

/-- The string that bytes make. -/
def strOf (p : List Nat) : ByteArray := ⟨(p.map UInt8.ofNat).toArray⟩

theorem ba_loop (s : ByteArray) : ∀ n i r, s.size - i = n → ByteArray.toList.loop s i r = r.reverse ++ s.data.toList.drop i := by
  intro n
  induction n with
  | zero =>
    intro i r h
    rw [ByteArray.toList.loop]
    have h1 : s.size = s.data.toList.length := (Array.length_toList).symm
    rw [if_neg (by omega), List.drop_eq_nil_of_le (by omega), List.append_nil]
  | succ n ih =>
    intro i r h
    rw [ByteArray.toList.loop]
    have h1 : s.size = s.data.toList.length := (Array.length_toList).symm
    have h2 : i < s.data.toList.length := by omega
    rw [if_pos (by omega), ih (i + 1) _ (by omega), List.drop_eq_getElem_cons h2]
    have h3 : s.get! i = s.data.toList[i] := by
      have h4 : i < s.data.size := by simpa using h2
      rw [Array.getElem_toList]
      exact getElem!_pos s.data i h4
    simp [h3]
theorem ba_toList (s : ByteArray) : s.toList = s.data.toList := by
  unfold ByteArray.toList
  rw [ba_loop s _ 0 [] rfl]
  simp

theorem strOf_inj {p q : List Nat} (hp : ∀ x ∈ p, x < 256) (hq : ∀ x ∈ q, x < 256) (h : strOf p = strOf q) : p = q := by
  have h1 : p.map UInt8.ofNat = q.map UInt8.ofNat := by
    have := congrArg (fun b => b.data.toList) h
    simpa [strOf] using this
  have h2 := congrArg (List.map UInt8.toNat) h1
  simp only [List.map_map] at h2
  have e : ∀ l : List Nat, (∀ x ∈ l, x < 256) → l.map (UInt8.toNat ∘ UInt8.ofNat) = l := by
    intro l hl
    conv => rhs; rw [← List.map_id l]
    apply List.map_congr_left
    intro x hx
    have := hl x hx
    simp [UInt8.toNat_ofNat]; omega
  rw [e p hp, e q hq] at h2
  exact h2

theorem conv_any (v : Value) (p : List Nat) (w : World) (h : Rd w v p) (hu5 : Tryz.prog.underlying 5 = some (.int .u8)) (hu9 : Tryz.prog.underlying 9 = some .string) :
    (convert 36 9 v).run Tryz.prog w = .ok (.string (strOf p)) w := by
  obtain ⟨ao, len, cap, rfl, rfl, h2, h3, h4, h5, h6⟩ := h
  have hl : p.length = (p.map UInt8.ofNat).length := by simp
  cases ao with
  | none =>
    have hz := h4 rfl
    have hp0 : p = [] := List.eq_nil_of_length_eq_zero (by omega)
    subst hp0
    rw [run_convert_bytes_string w 36 9 5 none _ cap Tryz.underlying36 hu5 hu9]
    simp [Conv.bytesToString, strOf]
    rfl
  | some a =>
    rw [hl]
    refine run_convert_bytes_back w 36 9 5 a cap (p.map UInt8.ofNat) Tryz.underlying36 hu5 hu9 (fun j hj => ?_)
    simp at hj
    obtain ⟨b, off, he, hc⟩ := h6 (by omega)
    cases he
    have := hc j hj
    rw [Addr.add_mid, this]
    have hb := h5 (p[j]) (List.getElem_mem hj)
    simp [u8, List.getD_eq_getElem?_getD, List.getElem?_eq_getElem hj, UInt8.toNat_ofNat]
    omega

end Go.Proofs.YtckkalmhekfnhaaGreatDoor
namespace Go.Proofs.YtckkalmhekfnhaaGreatDoor
open Go.RowKit
set_option linter.unusedVariables false
set_option linter.unusedSimpArgs false

/-- A literal of an array, as a row that is known. -/
theorem f_build_as {P : Program} {ops : Array Oper} {rest : List Oper} {o : Oper} {a : Act} {w : World} {Q : Exit → Act → World → Prop} (hg : o.guard = none) (t : TypeId) (parts : Array (Nat × Operand)) (ho : o.op = .build t parts) (cs : Array Value)
    (hb : P.built t (parts.map fun (i, x) => (i, a.eval x)).toList = some cs) (h : wpList P ops Q rest (a.put o.dst (.agg cs)) w) : wpList P ops Q (o :: rest) a w :=
  wpList_build hg t parts ho (by rw [hb]; rfl) (by rw [hb]; exact h)
theorem Kept.setRow {L : List Nat} {a w : World} (h : Kept L a w) {g : Nat} (hg : g ∈ L ∨ a.heap.size ≤ g) (cs : Array Value) : Kept L a (w.setRow g cs) :=
  h.trans (M := [g]) ⟨rfl, rfl, rfl, by simp [World.setRow], fun k _ hn => setRow_other w g k _ (by simpa using hn)⟩ (by simpa using hg)
theorem f_results_cell_tmp {P : Program} {fn : Func} {p q : Tmp} {ty : TypeId} (h : fn.results = #[.cell p ty, .tmp q]) (tmps : Array Value) (w : World) (g : Nat) (t : TypeId) (cs : Array Value) (fr : Nat × Nat) (d : TypeDesc)
    (hp : tmps.getD p undef = .pointer (some ⟨g, 0, none⟩)) (hg : w.heap[g]? = some (.cells cs t fr))
    (hu : P.underlying ty = some d) (hd : (match d with | .struct _ | .array _ _ => true | _ => false) = true) (hi : (P.info? ty).map (·.size) = some cs.size) (v : Value) (hq : tmps.getD q undef = v) :
    (results fn tmps).run P w = .ok (.tuple #[.agg cs, v]) w := by
  have hp' : tmps[p]?.getD undef = .pointer (some ⟨g, 0, none⟩) := by simpa using hp
  have hq' : tmps[q]?.getD undef = v := by simpa using hq
  simp [results, h, hp', hq', asAddr, run_loadVar_row w g t ty cs fr d hg hu hd hi]
theorem put2_heap {w : World} {g : Nat} {a b : Value} {t : TypeId} (h : w.heap[g]? = some (.cells #[a, b] t (0, 0))) (x y : Value) : ((w.setCell ⟨g, 0, none⟩ x).setCell ⟨g, 1, none⟩ y).heap[g]? = some (.cells #[x, y] t (0, 0)) := by
  rw [heap_setCell_same _ g 1 _ t _ (heap_setCell_same w g 0 _ t _ h)]; rfl
theorem put2_kept {w0 w : World} (k : Kept [] w0 w) (g : Nat) (hg : w0.heap.size ≤ g) (x y : Value) : Kept [] w0 ((w.setCell ⟨g, 0, none⟩ x).setCell ⟨g, 1, none⟩ y) := (k.setCell (Or.inr hg) x).setCell (Or.inr hg) y
theorem put2_kept' (w : World) (g : Nat) (x y : Value) : Kept [g] w ((w.setCell ⟨g, 0, none⟩ x).setCell ⟨g, 1, none⟩ y) := ((Kept.refl [g] w).setCell (Or.inl (by simp)) x).setCell (Or.inl (by simp)) y
theorem Tryz.size_frame : (Tryz.prog.info? 83).map (·.size) = some 2 := by kernel_rfl

set_option maxRecDepth 100000 in
set_option maxHeartbeats 1000000 in
theorem ru32_any (b : Nat) (gv : Value) (p : List Nat) (i e : Nat) (w : World) (h : ReAt w b gv p i e) :
    Calls Tryz.prog 137 #[.pointer (some ⟨b, 0, none⟩)] w fun r w' => r = .returned (.int .u32 ((rNum p i e 4).1 % 4294967296 : Nat)) ∧ ReAt w' b gv p (rNum p i e 4).2.1 (rNum p i e 4).2.2 ∧ Kept [b] w w' := by
  have HR := hide h
  have hlt := ru_lt p i e 4
  obtain ⟨x, hx⟩ : ∃ x, (rNum p i e 4).1 = x := ⟨_, rfl⟩
  rw [hx] at hlt ⊢
  have Hx := hide hx
  clear h hx
  go_enter Tryz.func137, Tryz.ntmps137
  go_wp2_with (go_at_call 148; go_must (refine (rnum_any b gv p i e 4 _ (unhide HR) (by omega)).mono ?_; rintro r w1 ⟨rfl, h1, h2⟩; rw [unhide Hx]; have H1 := hide h1; have H2 := hide h2; clear h1 h2))
  go_ret
  exact ⟨by simp, unhide H1, unhide H2⟩

set_option maxRecDepth 100000 in
set_option maxHeartbeats 1000000 in
theorem ru64_any (b : Nat) (gv : Value) (p : List Nat) (i e : Nat) (w : World) (h : ReAt w b gv p i e) :
    Calls Tryz.prog 138 #[.pointer (some ⟨b, 0, none⟩)] w fun r w' => r = .returned (.int .u64 ((rNum p i e 8).1 : Nat)) ∧ ReAt w' b gv p (rNum p i e 8).2.1 (rNum p i e 8).2.2 ∧ Kept [b] w w' := by
  have HR := hide h
  have hlt := ru_lt p i e 8
  obtain ⟨x, hx⟩ : ∃ x, (rNum p i e 8).1 = x := ⟨_, rfl⟩
  rw [hx] at hlt ⊢
  have Hx := hide hx
  clear h hx
  go_enter Tryz.func138, Tryz.ntmps138
  go_wp2_with (go_at_call 148; go_must (refine (rnum_any b gv p i e 8 _ (unhide HR) (by omega)).mono ?_; rintro r w1 ⟨rfl, h1, h2⟩; rw [unhide Hx]; have H1 := hide h1; have H2 := hide h2; clear h1 h2))
  go_ret
  exact ⟨by simp, unhide H1, unhide H2⟩

theorem rNum_at {p : List Nat} {i n m : Nat} (hm : i + n ≤ m) (hl : m ≤ p.length) : rNum (p.take m) i 0 n = (beL ((p.drop i).take n), i + n, 0) := by
  have e : ((p.take m).drop i).take n = (p.drop i).take n := by rw [List.drop_take, List.take_take, Nat.min_eq_left (by omega)]
  unfold rNum
  rw [if_neg (by simp), if_neg (by rw [List.length_take]; omega), e]
theorem Rd.take0 {w : World} {ao : Option Addr} {cap n : Nat} {p : List Nat} (h : Rd w (.slice ao p.length cap) p) (hn : n ≤ p.length) : Rd w (.slice ao n cap) (p.take n) := by
  obtain ⟨ao', len', cap', he, _, h2, ⟨h3, h3'⟩, h4, h5, h6⟩ := h
  cases he
  refine ⟨_, _, _, rfl, by rw [List.length_take]; omega, by omega, ⟨by omega, by omega⟩, h4, fun x hx => h5 x (List.mem_of_mem_take hx), fun hp => ?_⟩
  obtain ⟨b, off, rfl, hc⟩ := h6 (by omega)
  refine ⟨b, off, rfl, fun i hi => ?_⟩
  rw [hc i (by omega), List.getD_eq_getElem?_getD, List.getD_eq_getElem?_getD, List.getElem?_take, if_pos hi]
theorem Rd.drop17 {w : World} {b off cap : Nat} {p : List Nat} (h : Rd w (.slice (some ⟨b, off, none⟩) p.length cap) p) (n : Nat) (hn : 17 + n ≤ p.length) : Rd w (.slice (some ⟨b, off + 17, none⟩) n (cap - 17)) ((p.drop 17).take n) := by
  obtain ⟨ao', len', cap', he, _, h2, ⟨h3, h3'⟩, h4, h5, h6⟩ := h
  cases he
  refine ⟨_, _, _, rfl, by rw [List.length_take, List.length_drop]; omega, by omega, ⟨by omega, by omega⟩, fun h => by simp at h, fun x hx => h5 x (List.mem_of_mem_drop (List.mem_of_mem_take hx)), fun hp => ?_⟩
  obtain ⟨b', off', e, hc⟩ := h6 (by omega)
  cases e
  refine ⟨b, off + 17, rfl, fun i hi => ?_⟩
  have := hc (17 + i) (by omega)
  rw [Nat.add_assoc, this, List.getD_eq_getElem?_getD, List.getD_eq_getElem?_getD, List.getElem?_take, if_pos hi, List.getElem?_drop]
/-- What first tells. -/
def fstPl (p : List Nat) : Nat := (firstF p).elim 0 (·.1)
def fstPay (p : List Nat) : List Nat := (firstF p).elim [] (·.2)
theorem Tryz.lt_of_beL {p : List Nat} (h : ∀ x ∈ p, x < 256) (i n : Nat) (hn : n ≤ 8) : beL ((p.drop i).take n) < 256 ^ n := by
  have := (f_wide_beL (r := (p.drop i).take n) (fun y hy => h y (List.mem_of_mem_drop (List.mem_of_mem_take hy))) (by rw [List.length_take]; omega)).2
  exact Nat.lt_of_lt_of_le this (Nat.pow_le_pow_right (by omega) (by rw [List.length_take]; omega))
theorem firstF_short {p : List Nat} (h : p.length < 18) : firstF p = none := by
  unfold firstF
  rw [if_neg]
  rintro ⟨_, h1, _, h2, _⟩
  omega

theorem getD_drop0 (p : List Nat) (h : ∀ x ∈ p, x < 256) (hp : 0 < p.length) : beL ((p.drop 0).take 1) = p.getD 0 0 := by
  cases p with
  | nil => simp at hp
  | cons a r =>
    have := h a (by simp)
    simp [beL]
    omega

set_option maxRecDepth 100000 in
set_option maxHeartbeats 1000000 in
theorem clone_any (v : Value) (p : List Nat) (w : World) (h : Rd w v p) (hp : 0 < p.length) :
    Calls Tryz.prog 139 #[v] w fun e w' => ∃ v', e = .returned v' ∧ Rd w' v' p ∧ (∀ x ∈ blk v', w.heap.size ≤ x) ∧ Kept [] w w' := by
  have H := hide h
  obtain ⟨a1, n1, c1, rfl, hn1, hc1, ⟨hc2, hc3⟩, hc4, hc5, hc6⟩ := id h
  subst hn1
  obtain ⟨b, off, rfl, _⟩ := hc6 hp
  clear h hc6 hc5 hc4
  have HO := hide (World.ownsRow_made (base := w.heap.size) (e := 5) (size := 1) w #[] 0 (Nat.le_refl _) (by unfold maxLen; omega) (by simp))
  go_enter Tryz.func139, Tryz.ntmps139
  have hq : ∀ W : World, (binOp .eql 36 (.slice (some ⟨b, off, none⟩) p.length c1) (.slice none 0 0)).run Tryz.prog W = .ok (.bool false) W := by
    intro W
    simp only [binOp]
    simp [run_equal_slice_nil W 36 5 (some ⟨b, off, none⟩) p.length c1 Tryz.underlying36]
  go_wp2_with (at_builtin; refine wpList_appendAll rfl (.tmp 5) (.tmp 6) rfl rfl _ w.heap.size (.slice (some ⟨w.heap.size, 0, none⟩) 0 0) [] p (some ⟨b, off, none⟩) p.length c1 (unhide HO) ((unhide H).old ((Kept.refl [] w).alloc _) (by simp)) (by simp; omega) (by simp) rfl rfl ?_; intro ao1 cap1 w1 HO1 HG1 HA1; simp only [List.nil_append, List.length_nil, Nat.zero_add] at HO1 HA1; have HK1 := hide (((Kept.refl [] w).alloc _).grown (unhide HG1) (by intro k hk; right; simp [Value.ownBlock] at hk; omega)); clear HG1)
  go_ret
  refine ⟨_, rfl, rd_owns (unhide HO1) (unhide H).byte hc3, ?_, unhide HK1⟩
  intro x hx
  cases ao1 with
  | none => simp [blk] at hx
  | some a => simp [blk] at hx; subst hx; exact ((unhide HO1).lt a.block rfl).1

/-- What first's payload is: new memory. -/
def NewP (w w' : World) (v : Value) (bs : List Nat) : Prop := Rd w' v bs ∧ ∀ x ∈ blk v, w.heap.size ≤ x
theorem NewP.nil (w w' : World) : NewP w w' (.slice none 0 0) [] := ⟨Rd.nil _, by simp [blk]⟩

set_option maxRecDepth 100000 in
set_option maxHeartbeats 2000000 in
theorem first_any (v : Value) (p : List Nat) (w : World) (h : Rd w v p) :
    Calls Tryz.prog 112 #[v] w fun e w' => ∃ v', e = .returned (.tuple #[.agg #[.int .u64 (fstPl p), v'], .bool (firstF p).isSome]) ∧ NewP w w' v' (fstPay p) ∧ Kept [] w w' := by
  have H := hide h
  obtain ⟨a1, n1, c1, rfl, hn1, hc1, ⟨hc2, hc3⟩, _, _, hcell⟩ := id h
  subst hn1
  clear h
  by_cases h18 : p.length < 18
  · have h18' : (p.length : Int) < 18 := by omega
    have HF := hide (firstF_short h18)
    have e1 : fstPl p = 0 := by simp [fstPl, unhide HF]
    have e2 : fstPay p = [] := by simp [fstPay, unhide HF]
    rw [e1, e2, unhide HF]
    clear e1 e2 hcell
    go_enter Tryz.func112, Tryz.ntmps112
    go_wp2
    refine bodyPost_ret (v := .tuple #[.agg #[.int .u64 0, .slice none 0 0], .bool false]) ?_ rfl ⟨_, rfl, NewP.nil _ _, (Kept.refl [] w).alloc _⟩
    exact f_results_cell_tmp rfl _ _ w.heap.size _ #[.int .u64 0, .slice none 0 0] (0, 0) _ rfl (heap_alloc_new _ _) Tryz.underlying83 rfl Tryz.size_frame _ rfl
  have h18' : ¬ (p.length : Int) < 18 := by omega
  obtain ⟨bb, off, rfl, hcl⟩ := hcell (by omega)
  have HCL := hide hcl
  clear hcell hcl
  have hb := (unhide H).byte
  have t17 := (unhide H).take0 (n := 17) (by omega)
  have HT := hide t17
  have Hn1 := hide (rNum_at (p := p) (i := 0) (n := 1) (m := 17) (by omega) (by omega))
  have Hn4 := hide (rNum_at (p := p) (i := 1) (n := 4) (m := 17) (by omega) (by omega))
  have Hn8 := hide (rNum_at (p := p) (i := 5) (n := 8) (m := 17) (by omega) (by omega))
  have Hns := hide (rNum_at (p := p) (i := 13) (n := 4) (m := 17) (by omega) (by omega))
  have ln := Tryz.lt_of_beL hb 1 4 (by omega)
  have lpl := Tryz.lt_of_beL hb 5 8 (by omega)
  have ls := Tryz.lt_of_beL hb 13 4 (by omega)
  rw [getD_drop0 p hb (by omega)] at Hn1
  have HFF := hide (rfl : firstF p = firstF p)
  unfold Hid at HFF
  conv at HFF => rhs; unfold firstF
  have lb : p.getD 0 0 < 256 := hb _ (by rw [List.getD_eq_getElem?_getD, List.getElem?_eq_getElem (show 0 < p.length by omega)]; exact List.getElem_mem _)
  obtain ⟨b0, hb0⟩ : ∃ x, p.getD 0 0 = x := ⟨_, rfl⟩
  obtain ⟨n, hn⟩ : ∃ x, beL ((p.drop 1).take 4) = x := ⟨_, rfl⟩
  obtain ⟨pl, hpl⟩ : ∃ x, beL ((p.drop 5).take 8) = x := ⟨_, rfl⟩
  obtain ⟨s, hs⟩ : ∃ x, beL ((p.drop 13).take 4) = x := ⟨_, rfl⟩
  rw [hn] at Hn4 HFF ln
  rw [hpl] at Hn8 HFF lpl
  rw [hs] at Hns HFF ls
  rw [hb0] at Hn1 HFF lb
  have HF := hide HFF
  clear HFF t17 hb0 hn hpl hs hb
  obtain ⟨X, hX⟩ : ∃ x, fstPl p = x := ⟨_, rfl⟩
  obtain ⟨Y, hY⟩ : ∃ x, fstPay p = x := ⟨_, rfl⟩
  obtain ⟨Z, hZ⟩ : ∃ x, (firstF p).isSome = x := ⟨_, rfl⟩
  rw [hX, hY, hZ]
  have HX := hide hX
  have HY := hide hY
  have HZ := hide hZ
  clear hX hY hZ
  go_enter Tryz.func112, Tryz.ntmps112
  have HZ0 := hide (heap_alloc_new w (.cells #[.int .u64 0, .slice none 0 0] 83))
  have HK0 := hide ((Kept.refl [] w).alloc (.cells #[.int .u64 0, .slice none 0 0] 83))
  go_wp2_with fail
  obtain ⟨W, hW⟩ : ∃ W, w.alloc (.cells #[.int .u64 0, .slice none 0 0] 83) = W := ⟨_, rfl⟩
  rw [hW] at HK0 HZ0 ⊢
  clear hW
  refine Calls.mono (newReader_any _ (p.take 17) W ((unhide HT).old (unhide HK0) (by simp))) ?_
  rintro e w1 ⟨b, gv, rfl, hb1, r1, hg1, k1⟩
  have HR1 := hide r1
  have HK1 := hide k1
  have Hb := hide hb1
  clear r1 k1 hg1 hb1
  go_wp2_with fail
  refine Calls.mono (ru8_any b gv (p.take 17) 0 0 w1 (unhide HR1)) ?_
  rintro e w2 ⟨rfl, r2, k2⟩
  rw [unhide Hn1] at r2 ⊢
  rw [show (b0, 0 + 1, 0).1 % 256 = b0 from Nat.mod_eq_of_lt lb]
  have HR2 := hide r2
  have HK2 := hide (((unhide HK1).trans k2 (by have := unhide Hb; simp; omega)))
  clear r2 k2 HR1 HK1
  go_wp2_with fail
  refine Calls.mono (ru32_any b gv (p.take 17) 1 0 w2 (unhide HR2)) ?_
  rintro e w3 ⟨rfl, r3, k3⟩
  rw [unhide Hn4] at r3 ⊢
  rw [show (n, 1 + 4, 0).1 % 4294967296 = n from Nat.mod_eq_of_lt ln]
  have HR3 := hide r3
  have HK3 := hide (((unhide HK2).trans k3 (by have := unhide Hb; simp; omega)))
  clear r3 k3 HR2 HK2
  go_wp2_with fail
  refine Calls.mono (ru64_any b gv (p.take 17) 5 0 w3 (unhide HR3)) ?_
  rintro e w4 ⟨rfl, r4, k4⟩
  rw [unhide Hn8] at r4 ⊢
  have HR4 := hide r4
  have HK4 := hide (((unhide HK3).trans k4 (by have := unhide Hb; simp; omega)))
  clear r4 k4 HR3 HK3
  go_wp2_with fail
  refine Calls.mono (ru32_any b gv (p.take 17) 13 0 w4 (unhide HR4)) ?_
  rintro e w5 ⟨rfl, r5, k5⟩
  rw [unhide Hns]
  rw [show (s, 13 + 4, 0).1 % 4294967296 = s from Nat.mod_eq_of_lt ls]
  have HK5 := hide (((unhide HK4).trans k5 (by have := unhide Hb; simp; omega)))
  clear r5 k5 HR4 HK4
  simp only
  have HZ5 := hide ((unhide HK5).heap (unhide HZ0) (by simp))
  have HKW := hide ((unhide HK0).trans (unhide HK5) (by simp))
  have HNO := hide (fun (h : firstF p = none) => by
    rw [← unhide HX, ← unhide HY, ← unhide HZ]
    exact ⟨by simp [fstPl, h], by simp [fstPay, h], by rw [h]; rfl⟩ : firstF p = none → X = 0 ∧ Y = [] ∧ Z = false)
  have HQ0 := hide (put2_heap (unhide HZ5) (.int .u64 0) (.slice none 0 0))
  have HKQ := hide (put2_kept (unhide HKW) w.heap.size (Nat.le_refl _) (.int .u64 0) (.slice none 0 0))
  have d0 : w5.cell? ⟨w.heap.size, 0, none⟩ = some (.int .u64 0) := by rw [cell_of_row _ _ _ _ _ _ (unhide HZ5)]; rfl
  have d1 : w5.cell? ⟨w.heap.size, 1, none⟩ = some (.slice none 0 0) := by rw [cell_of_row _ _ _ _ _ _ (unhide HZ5)]; rfl
  have f0 : w5.frozen? ⟨w.heap.size, 0, none⟩ = false := frozen_of_row _ _ _ _ _ (unhide HZ5)
  have f1 : w5.frozen? ⟨w.heap.size, 1, none⟩ = false := frozen_of_row _ _ _ _ _ (unhide HZ5)
  by_cases hA0 : b0 = 245
  · subst hA0
    by_cases hA1 : n = 0
    · have HFn := hide (unhide HNO (by rw [unhide HF, if_neg]; rintro ⟨_, h, _⟩; omega))
      subst hA1
      go_wp2
      refine bodyPost_ret (v := .tuple #[.agg #[.int .u64 0, .slice none 0 0], .bool false]) ?_ rfl ⟨_, by rw [(unhide HFn).1, (unhide HFn).2.2]; rfl, by rw [(unhide HFn).2.1]; exact NewP.nil _ _, unhide HKQ⟩
      exact f_results_cell_tmp rfl _ _ w.heap.size _ #[.int .u64 0, .slice none 0 0] (0, 0) _ rfl (unhide HQ0) Tryz.underlying83 rfl Tryz.size_frame _ rfl
    have hA1' : ((n : Int) == 0) = false := by rw [beq_eq_false_iff_ne]; omega
    by_cases hA2 : 65535 < n
    · have HFn := hide (unhide HNO (by rw [unhide HF, if_neg]; rintro ⟨_, _, h, _⟩; omega))
      have hA2' : (65535 : Int) < n := by omega
      go_wp2
      refine bodyPost_ret (v := .tuple #[.agg #[.int .u64 0, .slice none 0 0], .bool false]) ?_ rfl ⟨_, by rw [(unhide HFn).1, (unhide HFn).2.2]; rfl, by rw [(unhide HFn).2.1]; exact NewP.nil _ _, unhide HKQ⟩
      exact f_results_cell_tmp rfl _ _ w.heap.size _ #[.int .u64 0, .slice none 0 0] (0, 0) _ rfl (unhide HQ0) Tryz.underlying83 rfl Tryz.size_frame _ rfl
    have hA2' : ¬ (65535 : Int) < n := by omega
    by_cases hB : 17 + n < p.length
    · have hB' : (17 : Int) + n < p.length := by omega
      have hB2 : ¬ (p.length : Int) ≤ 17 + n := by omega
      have cE := (unhide HKW).cell (unhide HCL (17 + n) hB) (by simp)
      obtain ⟨pe, hpe⟩ : ∃ x, p.getD (17 + n) 0 = x := ⟨_, rfl⟩
      rw [hpe] at cE HF
      clear hpe
      by_cases hE : pe = 95
      · subst hE
        have HPD := hide (((unhide H).drop17 n (by omega)).old (unhide HKW) (by simp))
        go_wp2_with fail
        refine Calls.mono (sumOf_any pl _ ((p.drop 17).take n) w5 (unhide HPD) lpl (by rw [List.length_take]; omega)) ?_
        rintro e w6 ⟨rfl, k6⟩
        have HZ6 := hide (k6.heap (unhide HZ5) (by simp))
        have HKW6 := hide ((unhide HKW).trans k6 (by simp))
        have HPD6 := hide ((unhide HPD).old k6 (by simp))
        have HQ6 := hide (put2_heap (unhide HZ6) (.int .u64 0) (.slice none 0 0))
        have HKQ6 := hide (put2_kept (unhide HKW6) w.heap.size (Nat.le_refl _) (.int .u64 0) (.slice none 0 0))
        clear k6 d0 d1 f0 f1
        have d0 : w6.cell? ⟨w.heap.size, 0, none⟩ = some (.int .u64 0) := by rw [cell_of_row _ _ _ _ _ _ (unhide HZ6)]; rfl
        have d1 : w6.cell? ⟨w.heap.size, 1, none⟩ = some (.slice none 0 0) := by rw [cell_of_row _ _ _ _ _ _ (unhide HZ6)]; rfl
        have f0 : w6.frozen? ⟨w.heap.size, 0, none⟩ = false := frozen_of_row _ _ _ _ _ (unhide HZ6)
        have f1 : w6.frozen? ⟨w.heap.size, 1, none⟩ = false := frozen_of_row _ _ _ _ _ (unhide HZ6)
        obtain ⟨q, hq⟩ : ∃ q, (p.drop 17).take n = q := ⟨_, rfl⟩
        have hql : q.length = n := by rw [← hq, List.length_take, List.length_drop]; omega
        rw [hq] at HPD6 HF ⊢
        clear hq
        obtain ⟨t, ht⟩ : ∃ t, sumF pl q = t := ⟨_, rfl⟩
        rw [ht] at HF ⊢
        clear ht
        by_cases hS : t = s
        · subst hS
          have HFs := hide (by rw [unhide HF, if_pos (by simp; omega)] : firstF p = some (pl, q))
          have HV := hide (by
            rw [← unhide HX, ← unhide HY, ← unhide HZ]
            exact ⟨by simp [fstPl, unhide HFs], by simp [fstPay, unhide HFs], by rw [unhide HFs]; rfl⟩ : X = pl ∧ Y = q ∧ Z = true)
          go_wp2_with fail
          refine Calls.mono (clone_any _ q w6 (unhide HPD6) (by omega)) ?_
          rintro e w7 ⟨v7, rfl, r7, b7, k7⟩
          obtain ⟨a7, n7, c7, hv7, _⟩ := id r7
          have HZ7 := hide (k7.heap (unhide HZ6) (by simp))
          have HQ7 := hide (put2_heap (unhide HZ7) (.int .u64 pl) v7)
          have HK7 := hide ((unhide HKW6).trans k7 (by simp))
          have hlt6 : w.heap.size < w6.heap.size := lt_of_block (unhide HZ6)
          have HN7 := hide (⟨r7.kept (put2_kept' w7 w.heap.size (.int .u64 pl) v7) (by intro x hx; have := b7 x hx; simp; omega), fun x hx => by have := b7 x hx; omega⟩ : NewP w _ v7 q)
          have HKQ7 := hide (put2_kept (unhide HK7) w.heap.size (Nat.le_refl _) (.int .u64 pl) v7)
          clear k7 d0 d1 f0 f1 r7 b7
          subst hv7
          have d0 : w7.cell? ⟨w.heap.size, 0, none⟩ = some (.int .u64 0) := by rw [cell_of_row _ _ _ _ _ _ (unhide HZ7)]; rfl
          have d1 : w7.cell? ⟨w.heap.size, 1, none⟩ = some (.slice none 0 0) := by rw [cell_of_row _ _ _ _ _ _ (unhide HZ7)]; rfl
          have f0 : w7.frozen? ⟨w.heap.size, 0, none⟩ = false := frozen_of_row _ _ _ _ _ (unhide HZ7)
          have f1 : w7.frozen? ⟨w.heap.size, 1, none⟩ = false := frozen_of_row _ _ _ _ _ (unhide HZ7)
          go_wp2
          refine bodyPost_ret (v := .tuple #[.agg #[.int .u64 pl, .slice a7 n7 c7], .bool true]) ?_ rfl ⟨.slice a7 n7 c7, by rw [(unhide HV).1, (unhide HV).2.2], by rw [(unhide HV).2.1]; exact unhide HN7, unhide HKQ7⟩
          exact f_results_cell_tmp rfl _ _ w.heap.size _ #[.int .u64 pl, .slice a7 n7 c7] (0, 0) _ rfl (unhide HQ7) Tryz.underlying83 rfl Tryz.size_frame _ rfl
        · have hS' : ((t : Int) != s) = true := by rw [bne_iff_ne]; omega
          have HFn := hide (unhide HNO (by rw [unhide HF, if_neg]; rintro ⟨_, _, _, _, _, h⟩; exact hS h))
          go_wp2
          refine bodyPost_ret (v := .tuple #[.agg #[.int .u64 0, .slice none 0 0], .bool false]) ?_ rfl ⟨_, by rw [(unhide HFn).1, (unhide HFn).2.2]; rfl, by rw [(unhide HFn).2.1]; exact NewP.nil _ _, unhide HKQ6⟩
          exact f_results_cell_tmp rfl _ _ w.heap.size _ #[.int .u64 0, .slice none 0 0] (0, 0) _ rfl (unhide HQ6) Tryz.underlying83 rfl Tryz.size_frame _ rfl
      · have hE' : ((pe : Int) != 95) = true := by rw [bne_iff_ne]; omega
        have HFn := hide (unhide HNO (by rw [unhide HF, if_neg]; rintro ⟨_, _, _, _, h, _⟩; exact hE h))
        go_wp2
        refine bodyPost_ret (v := .tuple #[.agg #[.int .u64 0, .slice none 0 0], .bool false]) ?_ rfl ⟨_, by rw [(unhide HFn).1, (unhide HFn).2.2]; rfl, by rw [(unhide HFn).2.1]; exact NewP.nil _ _, unhide HKQ⟩
        exact f_results_cell_tmp rfl _ _ w.heap.size _ #[.int .u64 0, .slice none 0 0] (0, 0) _ rfl (unhide HQ0) Tryz.underlying83 rfl Tryz.size_frame _ rfl
    · have hB' : (p.length : Int) ≤ 17 + n := by omega
      have HFn := hide (unhide HNO (by rw [unhide HF, if_neg]; rintro ⟨_, _, _, h, _⟩; exact hB h))
      go_wp2
      refine bodyPost_ret (v := .tuple #[.agg #[.int .u64 0, .slice none 0 0], .bool false]) ?_ rfl ⟨_, by rw [(unhide HFn).1, (unhide HFn).2.2]; rfl, by rw [(unhide HFn).2.1]; exact NewP.nil _ _, unhide HKQ⟩
      exact f_results_cell_tmp rfl _ _ w.heap.size _ #[.int .u64 0, .slice none 0 0] (0, 0) _ rfl (unhide HQ0) Tryz.underlying83 rfl Tryz.size_frame _ rfl
  · have hA0' : ((b0 : Int) != 245) = true := by rw [bne_iff_ne]; omega
    have HFn := hide (unhide HNO (by rw [unhide HF, if_neg]; rintro ⟨h, _⟩; exact hA0 h))
    go_wp2
    refine bodyPost_ret (v := .tuple #[.agg #[.int .u64 0, .slice none 0 0], .bool false]) ?_ rfl ⟨_, by rw [(unhide HFn).1, (unhide HFn).2.2]; rfl, by rw [(unhide HFn).2.1]; exact NewP.nil _ _, unhide HKQ⟩
    exact f_results_cell_tmp rfl _ _ w.heap.size _ #[.int .u64 0, .slice none 0 0] (0, 0) _ rfl (unhide HQ0) Tryz.underlying83 rfl Tryz.size_frame _ rfl
end Go.Proofs.YtckkalmhekfnhaaGreatDoor
namespace Go.Proofs.YtckkalmhekfnhaaGreatDoor
open Go.RowKit Go.BigFrame
set_option linter.unusedVariables false
set_option linter.unusedSimpArgs false

theorem results_cell_tmp2 {P : Program} {fn : Func} {p q r : Tmp} {ty : TypeId} (h : fn.results = #[.cell p ty, .tmp q, .tmp r]) (tmps : Array Value) (w : World) (g : Nat) (t : TypeId) (cs : Array Value) (fr : Nat × Nat) (d : TypeDesc)
    (hp : tmps.getD p undef = .pointer (some ⟨g, 0, none⟩)) (hg : w.heap[g]? = some (.cells cs t fr))
    (hu : P.underlying ty = some d) (hd : (match d with | .struct _ | .array _ _ => true | _ => false) = true) (hi : (P.info? ty).map (·.size) = some cs.size) (v u : Value) (hq : tmps.getD q undef = v) (hr : tmps.getD r undef = u) :
    (results fn tmps).run P w = .ok (.tuple #[.agg cs, v, u]) w := by
  have hp' : tmps[p]?.getD undef = .pointer (some ⟨g, 0, none⟩) := by simpa using hp
  have hq' : tmps[q]?.getD undef = v := by simpa using hq
  have hr' : tmps[r]?.getD undef = u := by simpa using hr
  simp [results, h, hp', hq', hr', asAddr, run_loadVar_row w g t ty cs fr d hg hu hd hi]

/-- What stands in p at the place z: place, payload, the place behind it, the kind. -/
structure NxR where
  pl : Nat
  pay : List Nat
  next : Int
  kind : Nat
def nextF (p : List Nat) (z : Int) : NxR :=
  if z = p.length then ⟨0, [], z, 0⟩ else if z < 0 ∨ (p.length : Int) < z then ⟨0, [], z, 2⟩ else
  match firstF (p.drop z.toNat) with
  | none => ⟨0, [], z, 2⟩
  | some x => ⟨x.1, x.2, z + 18 + x.2.length, 1⟩
theorem Rd.dropN {w : World} {b off cap : Nat} {p : List Nat} (h : Rd w (.slice (some ⟨b, off, none⟩) p.length cap) p) (n : Nat) (hn : n ≤ p.length) : Rd w (.slice (some ⟨b, off + n, none⟩) (p.length - n) (cap - n)) (p.drop n) := by
  obtain ⟨ao', len', cap', he, _, h2, ⟨h3, h3'⟩, h4, h5, h6⟩ := h
  cases he
  refine ⟨_, _, _, rfl, by rw [List.length_drop], by omega, ⟨by omega, by omega⟩, fun h => by simp at h, fun x hx => h5 x (List.mem_of_mem_drop hx), fun hp => ?_⟩
  obtain ⟨b', off', e, hc⟩ := h6 (by omega)
  cases e
  refine ⟨b, off + n, rfl, fun i hi => ?_⟩
  have := hc (n + i) (by omega)
  rw [Nat.add_assoc, this, List.getD_eq_getElem?_getD, List.getD_eq_getElem?_getD, List.getElem?_drop]

set_option maxRecDepth 100000 in
set_option maxHeartbeats 2000000 in
theorem next_any (v : Value) (p : List Nat) (z : Int) (w : World) (h : Rd w v p) (hz : -9223372036854775808 ≤ z ∧ z ≤ 9223372036854775807) :
    Calls Tryz.prog 74 #[v, .int .i64 z] w fun e w' => ∃ v', e = .returned (.tuple #[.agg #[.int .u64 (nextF p z).pl, v'], .int .i64 (nextF p z).next, .int .i64 (nextF p z).kind]) ∧ NewP w w' v' (nextF p z).pay ∧ Kept [] w w' := by
  have H := hide h
  obtain ⟨a1, n1, c1, rfl, hn1, hc1, ⟨hc2, hc3⟩, _, _, hcell⟩ := id h
  subst hn1
  clear h
  have HZ0 := hide (heap_alloc_new w (.cells #[.int .u64 0, .slice none 0 0] 83))
  have HK0 := hide ((Kept.refl [] w).alloc (.cells #[.int .u64 0, .slice none 0 0] 83))
  have HQ0 := hide (put2_heap (unhide HZ0) (.int .u64 0) (.slice none 0 0))
  have HKQ := hide (put2_kept (unhide HK0) w.heap.size (Nat.le_refl _) (.int .u64 0) (.slice none 0 0))
  by_cases h1 : z = p.length
  · have hN : nextF p z = ⟨0, [], z, 0⟩ := by unfold nextF; rw [if_pos h1]
    rw [hN]
    clear hN hcell
    subst h1
    go_enter Tryz.func74, Tryz.ntmps74
    go_wp2
    refine bodyPost_ret (v := .tuple #[.agg #[.int .u64 0, .slice none 0 0], .int .i64 p.length, .int .i64 0]) ?_ rfl ⟨_, rfl, NewP.nil _ _, unhide HK0⟩
    exact results_cell_tmp2 rfl _ _ w.heap.size _ #[.int .u64 0, .slice none 0 0] (0, 0) _ rfl (unhide HZ0) Tryz.underlying83 rfl Tryz.size_frame _ _ rfl rfl
  have h1' : (z == (p.length : Int)) = false := by rw [beq_eq_false_iff_ne]; exact h1
  by_cases h2 : z < 0
  · have hN : nextF p z = ⟨0, [], z, 2⟩ := by unfold nextF; rw [if_neg h1, if_pos (Or.inl h2)]
    rw [hN]
    clear hN hcell
    go_enter Tryz.func74, Tryz.ntmps74
    go_wp2
    refine bodyPost_ret (v := .tuple #[.agg #[.int .u64 0, .slice none 0 0], .int .i64 z, .int .i64 2]) ?_ rfl ⟨_, rfl, NewP.nil _ _, unhide HK0⟩
    exact results_cell_tmp2 rfl _ _ w.heap.size _ #[.int .u64 0, .slice none 0 0] (0, 0) _ rfl (unhide HZ0) Tryz.underlying83 rfl Tryz.size_frame _ _ rfl rfl
  by_cases h3 : (p.length : Int) < z
  · have hN : nextF p z = ⟨0, [], z, 2⟩ := by unfold nextF; rw [if_neg h1, if_pos (Or.inr h3)]
    rw [hN]
    clear hN hcell
    go_enter Tryz.func74, Tryz.ntmps74
    go_wp2
    refine bodyPost_ret (v := .tuple #[.agg #[.int .u64 0, .slice none 0 0], .int .i64 z, .int .i64 2]) ?_ rfl ⟨_, rfl, NewP.nil _ _, unhide HK0⟩
    exact results_cell_tmp2 rfl _ _ w.heap.size _ #[.int .u64 0, .slice none 0 0] (0, 0) _ rfl (unhide HZ0) Tryz.underlying83 rfl Tryz.size_frame _ _ rfl rfl
  obtain ⟨n, rfl⟩ : ∃ n : Nat, z = n := ⟨z.toNat, by omega⟩
  have hn : n < p.length := by omega
  obtain ⟨bb, off, rfl, hcl⟩ := hcell (by omega)
  clear hcell hcl
  have HD := hide ((unhide H).dropN n (by omega))
  have HNF := hide (by unfold nextF; rw [if_neg h1, if_neg (by omega), Int.toNat_natCast] : nextF p n = match firstF (p.drop n) with
    | none => ⟨0, [], n, 2⟩
    | some x => ⟨x.1, x.2, (n : Int) + 18 + x.2.length, 1⟩)
  cases hf : firstF (p.drop n) with
  | none =>
    rw [hf] at HNF
    rw [unhide HNF]
    have HF := hide hf
    clear hf
    have h3' : ¬ (p.length : Int) < n := by omega
    go_enter Tryz.func74, Tryz.ntmps74
    go_wp2_with fail
    refine Calls.mono (first_any _ (p.drop n) _ ((unhide HD).old (unhide HK0) (by simp))) ?_
    rintro e w1 ⟨v1, rfl, n1, k1⟩
    rw [unhide HF]
    have HZ1 := hide (k1.heap (unhide HZ0) (by simp))
    have HK1 := hide ((unhide HK0).trans k1 (by simp))
    obtain ⟨a2, n2, c2, hv1, _⟩ := id n1.1
    subst hv1
    clear k1 n1
    have k2 := (Kept.refl [] w1).alloc (.cells #[.int .u64 (fstPl (p.drop n) : Int), .slice a2 n2 c2] 83)
    have HZ2 := hide (k2.heap (unhide HZ1) (by simp))
    have HK2 := hide ((unhide HK1).alloc (.cells #[.int .u64 (fstPl (p.drop n) : Int), .slice a2 n2 c2] 83))
    have d0 : (w1.alloc (.cells #[.int .u64 (fstPl (p.drop n) : Int), .slice a2 n2 c2] 83)).cell? ⟨w.heap.size, 0, none⟩ = some (.int .u64 0) := by rw [cell_of_row _ _ _ _ _ _ (unhide HZ2)]; rfl
    have d1 : (w1.alloc (.cells #[.int .u64 (fstPl (p.drop n) : Int), .slice a2 n2 c2] 83)).cell? ⟨w.heap.size, 1, none⟩ = some (.slice none 0 0) := by rw [cell_of_row _ _ _ _ _ _ (unhide HZ2)]; rfl
    have f0 : (w1.alloc (.cells #[.int .u64 (fstPl (p.drop n) : Int), .slice a2 n2 c2] 83)).frozen? ⟨w.heap.size, 0, none⟩ = false := frozen_of_row _ _ _ _ _ (unhide HZ2)
    have f1 : (w1.alloc (.cells #[.int .u64 (fstPl (p.drop n) : Int), .slice a2 n2 c2] 83)).frozen? ⟨w.heap.size, 1, none⟩ = false := frozen_of_row _ _ _ _ _ (unhide HZ2)
    clear k2
    go_wp2
    refine bodyPost_ret (v := .tuple #[.agg #[.int .u64 0, .slice none 0 0], .int .i64 n, .int .i64 2]) ?_ rfl ⟨_, rfl, NewP.nil _ _, put2_kept (unhide HK2) w.heap.size (Nat.le_refl _) (.int .u64 0) (.slice none 0 0)⟩
    exact results_cell_tmp2 rfl _ _ w.heap.size _ #[.int .u64 0, .slice none 0 0] (0, 0) _ rfl (put2_heap (unhide HZ2) (.int .u64 0) (.slice none 0 0)) Tryz.underlying83 rfl Tryz.size_frame _ _ rfl rfl
  | some x =>
    obtain ⟨pl, pay⟩ := x
    rw [hf] at HNF
    rw [unhide HNF]
    have hfm := firstF_form hf (fun x hx => (unhide H).byte x (List.mem_of_mem_drop hx))
    have hlen : n + 18 + pay.length ≤ p.length := by
      have := congrArg List.length hfm.2.2.2.2
      rw [List.length_append, frB_len, List.length_drop] at this
      omega
    have HF := hide hf
    have e1 : fstPl (p.drop n) = pl := by simp [fstPl, hf]
    have e2 : fstPay (p.drop n) = pay := by simp [fstPay, hf]
    clear hf
    have h3' : ¬ (p.length : Int) < n := by omega
    go_enter Tryz.func74, Tryz.ntmps74
    go_wp2_with fail
    refine Calls.mono (first_any _ (p.drop n) _ ((unhide HD).old (unhide HK0) (by simp))) ?_
    rintro e w1 ⟨v1, rfl, n1, k1⟩
    rw [e2] at n1
    rw [unhide HF, e1]
    have HZ1 := hide (k1.heap (unhide HZ0) (by simp))
    have HK1 := hide ((unhide HK0).trans k1 (by simp))
    have HN1 := hide n1
    obtain ⟨a2, n2, c2, hv1, hn2, _⟩ := id n1.1
    subst hv1
    subst hn2
    clear k1 n1 e1 e2 hfm
    have k2 := (Kept.refl [] w1).alloc (.cells #[.int .u64 (pl : Int), .slice a2 pay.length c2] 83)
    have HZ2 := hide (k2.heap (unhide HZ1) (by simp))
    have HK2 := hide ((unhide HK1).alloc (.cells #[.int .u64 (pl : Int), .slice a2 pay.length c2] 83))
    have d0 : (w1.alloc (.cells #[.int .u64 (pl : Int), .slice a2 pay.length c2] 83)).cell? ⟨w.heap.size, 0, none⟩ = some (.int .u64 0) := by rw [cell_of_row _ _ _ _ _ _ (unhide HZ2)]; rfl
    have d1 : (w1.alloc (.cells #[.int .u64 (pl : Int), .slice a2 pay.length c2] 83)).cell? ⟨w.heap.size, 1, none⟩ = some (.slice none 0 0) := by rw [cell_of_row _ _ _ _ _ _ (unhide HZ2)]; rfl
    have f0 : (w1.alloc (.cells #[.int .u64 (pl : Int), .slice a2 pay.length c2] 83)).frozen? ⟨w.heap.size, 0, none⟩ = false := frozen_of_row _ _ _ _ _ (unhide HZ2)
    have f1 : (w1.alloc (.cells #[.int .u64 (pl : Int), .slice a2 pay.length c2] 83)).frozen? ⟨w.heap.size, 1, none⟩ = false := frozen_of_row _ _ _ _ _ (unhide HZ2)
    clear k2
    go_wp2
    obtain ⟨W, hW⟩ : ∃ W, w1.alloc (.cells #[.int .u64 (pl : Int), .slice a2 pay.length c2] 83) = W := ⟨_, rfl⟩
    have HC := hide (heap_alloc_new w1 (.cells #[.int .u64 (pl : Int), .slice a2 pay.length c2] 83))
    have hlt1 : w.heap.size < w1.heap.size := lt_of_block (unhide HZ1)
    have HNW := hide ((unhide HN1).1.old ((Kept.refl [] w1).alloc (.cells #[.int .u64 (pl : Int), .slice a2 pay.length c2] 83)) (by simp))
    rw [hW] at HC d0 d1 f0 f1 HZ2 HK2 HNW ⊢
    clear hW
    have e0 : W.cell? ⟨w1.heap.size, 0, none⟩ = some (.int .u64 pl) := by rw [cell_of_row _ _ _ _ _ _ (unhide HC)]; rfl
    have e1 : W.cell? ⟨w1.heap.size, 1, none⟩ = some (.slice a2 pay.length c2) := by rw [cell_of_row _ _ _ _ _ _ (unhide HC)]; rfl
    have hne : w.heap.size ≠ w1.heap.size := by omega
    have HB1 := hide (fun x hx => by have h9 := (unhide HN1).2 x hx; have h8 : (w.alloc (.cells #[.int .u64 0, .slice none 0 0] 83)).heap.size = w.heap.size + 1 := by simp
                                     omega : ∀ x ∈ blk (.slice a2 pay.length c2), w.heap.size + 1 ≤ x)
    have HRQ := hide ((unhide HNW).kept (put2_kept' W w.heap.size (.int .u64 pl) (.slice a2 pay.length c2)) (by
      intro x hx hm
      have h9 := unhide HB1 x hx
      have h8 : x = w.heap.size := by simpa using hm
      omega))
    go_region_held3 (fun w' => w'.cell? ⟨w1.heap.size, 0, none⟩ = some (.int .u64 pl) ∧ w'.cell? ⟨w1.heap.size, 1, none⟩ = some (.slice a2 pay.length c2)) (go_keep) (fail)
    have hww : IntKind.i64.wrap (IntKind.i64.wrap ((n : Int) + 18) + pay.length) = (n : Int) + 18 + pay.length := by rw [IntKind.wrap_i64, IntKind.wrap_i64]; omega
    all_goals go_wp2
    all_goals
      refine bodyPost_ret (v := .tuple #[.agg #[.int .u64 pl, .slice a2 pay.length c2], .int .i64 ((n : Int) + 18 + pay.length), .int .i64 1]) ?_ rfl ⟨.slice a2 pay.length c2, rfl, ⟨unhide HRQ, fun x hx => by have h9 := unhide HB1 x hx; omega⟩, (put2_kept (unhide HK2) w.heap.size (Nat.le_refl _) (.int .u64 pl) (.slice a2 pay.length c2)).drew⟩
      refine results_cell_tmp2 rfl _ _ w.heap.size 83 #[.int .u64 pl, .slice a2 pay.length c2] (0, 0) _ rfl (by exact put2_heap (unhide HZ2) (.int .u64 pl) (.slice a2 pay.length c2)) Tryz.underlying83 rfl Tryz.size_frame _ _ ?_ rfl
      simp [hww]
end Go.Proofs.YtckkalmhekfnhaaGreatDoor
namespace Go.Proofs.YtckkalmhekfnhaaGreatDoor
open Go.RowKit Go.BigFrame
set_option linter.unusedVariables false
set_option linter.unusedSimpArgs false

theorem nextF_frB (pl : Nat) (pay t : List Nat) (hpl : pl < 18446744073709551616) (h1 : 1 ≤ pay.length) (hl : pay.length ≤ 65535) (hb : ∀ x ∈ pay, x < 256) : nextF (frB pl pay ++ t) 0 = ⟨pl, pay, 18 + (pay.length : Int), 1⟩ := by
  have h := firstF_some pl pay t hpl h1 hl hb
  have hlen : (frB pl pay ++ t).length = pay.length + 18 + t.length := by rw [List.length_append, frB_len]
  unfold nextF
  rw [if_neg (by rw [hlen]; omega), if_neg (by rw [hlen]; omega), Int.toNat_zero, List.drop_zero, h]
  simp

theorem next79 : nextF (frB 7 [9]) 0 = ⟨7, [9], 19, 1⟩ := by
  have := nextF_frB 7 [9] [] (by decide) (by decide) (by decide) (by decide)
  rw [List.append_nil] at this
  exact this

end Go.Proofs.YtckkalmhekfnhaaGreatDoor
namespace Go.Proofs.YtckkalmhekfnhaaGreatDoor
open Go.RowKit Go.BigFrame
set_option linter.unusedVariables false
set_option linter.unusedSimpArgs false

theorem nextF_cases (p : List Nat) (z : Int) (hb : ∀ x ∈ p, x < 256) :
    (z = p.length ∧ nextF p z = ⟨0, [], z, 0⟩) ∨ (z ≠ p.length ∧ nextF p z = ⟨0, [], z, 2⟩) ∨
    ∃ (n pl : Nat) (pay : List Nat), z = n ∧ nextF p z = ⟨pl, pay, ((n + 18 + pay.length : Nat) : Int), 1⟩ ∧ pl < 18446744073709551616 ∧ 1 ≤ pay.length ∧ pay.length ≤ 65535 ∧ (∀ x ∈ pay, x < 256) ∧ n + 18 + pay.length ≤ p.length ∧ (p.drop n).take (18 + pay.length) = frB pl pay ∧ firstF (p.drop n) = some (pl, pay) := by
  by_cases h1 : z = p.length
  · exact Or.inl ⟨h1, by unfold nextF; rw [if_pos h1]⟩
  refine Or.inr ?_
  by_cases h2 : z < 0 ∨ (p.length : Int) < z
  · exact Or.inl ⟨h1, by unfold nextF; rw [if_neg h1, if_pos h2]⟩
  obtain ⟨n, rfl⟩ : ∃ n : Nat, z = n := ⟨z.toNat, by omega⟩
  have hN : nextF p n = match firstF (p.drop n) with
    | none => ⟨0, [], n, 2⟩
    | some x => ⟨x.1, x.2, (n : Int) + 18 + x.2.length, 1⟩ := by
    unfold nextF; rw [if_neg h1, if_neg h2, Int.toNat_natCast]; try (cases firstF (p.drop n) <;> rfl)
  cases hf : firstF (p.drop n) with
  | none => exact Or.inl ⟨h1, by rw [hN, hf]⟩
  | some x =>
    obtain ⟨pl, pay⟩ := x
    have hfm := firstF_form hf (fun x hx => hb x (List.mem_of_mem_drop hx))
    have hlen : n + 18 + pay.length ≤ p.length := by
      have := congrArg List.length hfm.2.2.2.2
      rw [List.length_append, frB_len, List.length_drop] at this
      omega
    refine Or.inr ⟨n, pl, pay, rfl, ?_, hfm.1, hfm.2.1, hfm.2.2.1, hfm.2.2.2.1, hlen, ?_, hf⟩
    · rw [hN, hf]; simp
    · conv => lhs; rw [hfm.2.2.2.2]
      rw [List.take_append_of_le_length (by rw [frB_len]; omega), List.take_of_length_le (by rw [frB_len]; omega)]

theorem Rd.cutN {w : World} {b off cap : Nat} {p : List Nat} (h : Rd w (.slice (some ⟨b, off, none⟩) p.length cap) p) (n N : Nat) (hn : n ≤ N) (hN : N ≤ p.length) : Rd w (.slice (some ⟨b, off + n, none⟩) (N - n) (cap - n)) ((p.drop n).take (N - n)) := by
  obtain ⟨ao', len', cap', he, _, h2, ⟨h3, h3'⟩, h4, h5, h6⟩ := h
  cases he
  refine ⟨_, _, _, rfl, by rw [List.length_take, List.length_drop]; omega, by omega, ⟨by omega, by omega⟩, fun h => by simp at h, fun x hx => h5 x (List.mem_of_mem_drop (List.mem_of_mem_take hx)), fun hp => ?_⟩
  obtain ⟨b', off', e, hc⟩ := h6 (by omega)
  cases e
  refine ⟨b, off + n, rfl, fun i hi => ?_⟩
  have := hc (n + i) (by omega)
  rw [Nat.add_assoc, this, List.getD_eq_getElem?_getD, List.getD_eq_getElem?_getD, List.getElem?_take, if_pos hi, List.getElem?_drop]
theorem encE_good {p : List Nat} (h1 : 1 ≤ p.length) (h2 : p.length ≤ 65535) : encE p = 0 := by unfold encE; rw [if_neg (by omega), if_neg (by omega)]
theorem encB_good {pl : Nat} {p : List Nat} (h1 : 1 ≤ p.length) (h2 : p.length ≤ 65535) : encB pl p = frB pl p := by unfold encB; rw [encE_good h1 h2]; rfl
end Go.Proofs.YtckkalmhekfnhaaGreatDoor
namespace Go.Proofs.YtckkalmhekfnhaaGreatDoor
open Go.RowKit Go.BigFrame
set_option linter.unusedVariables false
set_option linter.unusedSimpArgs false

set_option maxRecDepth 100000 in
set_option maxHeartbeats 2000000 in
theorem bequal_any (u v : Value) (p q : List Nat) (w : World) (hu : Rd w u p) (hv : Rd w v q) :
    Calls Tryz.prog 140 #[u, v] w fun e w' => e = .returned (.bool (decide (p = q))) ∧ w' = w := by
  have hu5 : Tryz.prog.underlying 5 = some (.int .u8) := by kernel_rfl
  have hu9 : Tryz.prog.underlying 9 = some .string := by kernel_rfl
  have c1 := conv_any u p w hu hu5 hu9
  have c2 := conv_any v q w hv hu5 hu9
  have hd : ((strOf p).toList == (strOf q).toList) = decide (p = q) := by
    rw [ba_toList, ba_toList]
    by_cases h : p = q
    · subst h; simp
    · have h2 : ¬ (strOf p).data.toList = (strOf q).data.toList := fun e => h (strOf_inj hu.byte hv.byte (by
        have e2 := congrArg List.toArray e
        simp only [Array.toArray_toList] at e2
        cases hp : strOf p; cases hq : strOf q
        rw [hp, hq] at e2
        simp only at e2
        rw [e2]))
      rw [decide_eq_false h]
      exact beq_eq_false_iff_ne.2 h2
  have Hd := hide hd
  generalize strOf p = s1 at *
  generalize strOf q = s2 at *
  clear hu hv hu5 hu9 hd
  go_enter Tryz.func140, Tryz.ntmps140
  go_wp2
  go_ret
  exact ⟨by rw [unhide Hd]; rfl, rfl⟩

set_option maxRecDepth 100000 in
set_option maxHeartbeats 1000000 in
theorem bhasP_any (u v : Value) (p q : List Nat) (w : World) (hu : Rd w u p) (hv : Rd w v q) (hl : q.length ≤ p.length) :
    Calls Tryz.prog 113 #[u, v] w fun e w' => e = .returned (.bool (decide (p.take q.length = q))) ∧ w' = w := by
  have HU := hide hu
  have HV := hide hv
  obtain ⟨a1, n1, c1, rfl, hn1, hc1, ⟨hc2, hc3⟩, _⟩ := id hu
  obtain ⟨a2, n2, c2, rfl, hn2, _⟩ := id hv
  subst hn1
  subst hn2
  have hl' : (q.length : Int) ≤ p.length := by omega
  have hc9 : (q.length : Int) ≤ c1 := by omega
  have HC := hide ((unhide HU).take0 hl)
  clear hu hv
  go_enter Tryz.func113, Tryz.ntmps113
  go_wp2_with fail
  refine Calls.mono (bequal_any _ _ (p.take q.length) q w (unhide HC) (unhide HV)) ?_
  rintro e w1 ⟨rfl, rfl⟩
  go_wp2
  go_ret
  exact ⟨rfl, rfl⟩

set_option maxRecDepth 100000 in
set_option maxHeartbeats 1000000 in
theorem cutP_any (b off cap : Nat) (v : Value) (p q : List Nat) (w : World) (hu : Rd w (.slice (some ⟨b, off, none⟩) p.length cap) p) (hv : Rd w v q) (hlt : q.length < p.length) :
    Calls Tryz.prog 75 #[.slice (some ⟨b, off, none⟩) p.length cap, v] w fun e w' => e = .returned (.tuple #[if p.take q.length = q then .slice (some ⟨b, off + q.length, none⟩) (p.length - q.length) (cap - q.length) else .slice (some ⟨b, off, none⟩) p.length cap, .bool (decide (p.take q.length = q))]) ∧ w' = w := by
  have HU := hide hu
  have HV := hide hv
  obtain ⟨_, _, _, he, _, hc1, ⟨hc2, hc3⟩, _⟩ := id hu
  cases he
  obtain ⟨a2, n2, c2, rfl, hn2, _⟩ := id hv
  subst hn2
  have hl : q.length ≤ p.length := by omega
  have hl' : (q.length : Int) ≤ p.length := by omega
  have hcq : ¬ cap = q.length := by omega
  have hc9 : (q.length : Int) ≤ cap := by omega
  clear hu hv
  by_cases he : p.take q.length = q
  · rw [if_pos he, decide_eq_true he]
    have HE := hide (decide_eq_true he)
    clear he
    go_enter Tryz.func75, Tryz.ntmps75
    go_wp2_with fail
    refine Calls.mono (bhasP_any _ _ p q w (unhide HU) (unhide HV) hl) ?_
    rintro e w1 ⟨rfl, rfl⟩
    rw [unhide HE]
    go_wp2
    go_ret2
    exact ⟨by simp, rfl⟩
  · rw [if_neg he, decide_eq_false he]
    have HE := hide (decide_eq_false he)
    clear he
    go_enter Tryz.func75, Tryz.ntmps75
    go_wp2_with fail
    refine Calls.mono (bhasP_any _ _ p q w (unhide HU) (unhide HV) hl) ?_
    rintro e w1 ⟨rfl, rfl⟩
    rw [unhide HE]
    go_wp2
    go_ret2
    exact ⟨by simp, rfl⟩

set_option maxRecDepth 100000 in
set_option maxHeartbeats 2000000 in
theorem numberAt_any (b off cap i : Nat) (p : List Nat) (w : World) (hu : Rd w (.slice (some ⟨b, off, none⟩) p.length cap) p) (hi : i < 3) (hl : p.length = 25) :
    Calls Tryz.prog 76 #[.slice (some ⟨b, off, none⟩) p.length cap, .int .i64 i] w fun e w' => e = .returned (.int .u64 (beL ((p.drop (i * 8)).take 8))) ∧ w' = w := by
  obtain ⟨_, _, _, he, _, hc1, ⟨hc2, hc3⟩, _, hby, hcl⟩ := id hu
  cases he
  obtain ⟨b9, o9, e9, hcell⟩ := hcl (by omega)
  cases e9
  obtain ⟨q, hq⟩ : ∃ q, (p.drop (i * 8)).take 8 = q := ⟨_, rfl⟩
  have hql : q.length = 8 := by rw [← hq, List.length_take, List.length_drop]; omega
  have HC := hide (fun k (hk : k < 8) => by
    have h9 := hcell (i * 8 + k) (by omega)
    have e9 : p.getD (i * 8 + k) 0 = q.getD k 0 := by
      rw [← hq, List.getD_eq_getElem?_getD, List.getD_eq_getElem?_getD, List.getElem?_take, if_pos hk, List.getElem?_drop]
    rw [e9] at h9
    exact h9 : ∀ k, k < 8 → w.cell? ⟨b, off + (i * 8 + k), none⟩ = some (u8 (q.getD k 0)))
  have HB := hide (fun k (hk : k < 8) => by
    have hm : ∀ x ∈ q, x < 256 := fun x hx => by rw [← hq] at hx; exact hby _ (List.mem_of_mem_drop (List.mem_of_mem_take hx))
    rw [List.getD_eq_getElem?_getD, List.getElem?_eq_getElem (by omega)]
    exact hm _ (List.getElem_mem _) : ∀ k, k < 8 → q.getD k 0 < 256)
  have HQL := hide hql
  rw [hq]
  rw [hl] at hc1 ⊢
  clear hu hby hcl hcell hq hql
  have hc4 : (25 : Int) ≤ cap := by omega
  have hi3 : i = 0 ∨ i = 1 ∨ i = 2 := by omega
  clear hi
  rcases hi3 with rfl | rfl | rfl
  all_goals
    have hc5 : ¬ cap = 8 := by omega
    have hc6 : ¬ cap = 16 := by omega
    have hc7 : ¬ cap = 0 := by omega
    go_enter Tryz.func76, Tryz.ntmps76
    go_wp2_with fail
    go_loopw [5, 16] (fun t5 t16 wr => ∃ k : Nat, k ≤ 8 ∧ t16 = .int .i64 k ∧ t5 = .int .u64 (beL (q.take k)) ∧ wr = w) (fun _ i _ => 8 - (intOf i).toNat)
    case atStart => exact ⟨0, Nat.zero_le _, rfl, by simp [beL], rfl⟩
    case round =>
      obtain ⟨k, hk, rfl, rfl, rfl⟩ := hrel
      by_cases hlt : k < 8
      · have hck := unhide HC k hlt
        have hcb := unhide HB k hlt
        have hsn := beL_snoc q k (by rw [unhide HQL]; exact hlt)
        have hval := or_byte (beL (q.take k)) (q.getD k 0) hcb
        rw [← hsn] at hval
        obtain ⟨c, hcc⟩ : ∃ c, q.getD k 0 = c := ⟨_, rfl⟩
        have ha1 := beL_lt (q.take k)
        obtain ⟨a, ha⟩ : ∃ a, beL (q.take k) = a := ⟨_, rfl⟩
        obtain ⟨a', ha'⟩ : ∃ a', beL (q.take (k + 1)) = a' := ⟨_, rfl⟩
        rw [hcc] at hck hcb hval
        rw [ha] at hval ha1 ⊢
        rw [ha'] at hval
        have Ha' := hide ha'
        have hlt' : (k : Int) < 8 := by omega
        clear hcc ha ha' hsn
        simp only [Nat.zero_mul, Nat.zero_add, Nat.one_mul, Nat.reduceMul, ← Nat.add_assoc] at hck
        go_wp2
        go_roundw
        case rel => exact ⟨k + 1, by omega, by go_num, by rw [unhide Ha'], trivial⟩
        case measure => simp [intOf]; omega
      · have hlt' : ¬ (k : Int) < 8 := by omega
        obtain rfl : k = 8 := by omega
        have HT := hide (List.take_of_length_le (by rw [unhide HQL]; exact Nat.le_refl _) : q.take 8 = q)
        rw [unhide HT]
        go_wp2
        go_ret
        exact ⟨rfl, rfl⟩
end Go.Proofs.YtckkalmhekfnhaaGreatDoor
namespace Go.Proofs.YtckkalmhekfnhaaGreatDoor
open Go.RowKit
end Go.Proofs.YtckkalmhekfnhaaGreatDoor
/-
  Laws for drawn regions, by genreg.py. No program.
-/
namespace Go.Proofs.YtckkalmhekfnhaaGreatDoor
open Go Go.RowKit Go.BigFrame
set_option linter.unusedVariables false
set_option linter.unusedSimpArgs false
section
variable {P : Program} {Q : Exit → Act → World → Prop}
theorem wp_sh13 {id : Nat} {o0 o1 o2 o3 o4 o5 o6 o7 o8 o9 o10 o11 o12 : Oper} {a : Act} {w : World} (hm : P.follows .mixedOrders = true) (hs : Region.noSelect #[o0, o1, o2, o3, o4, o5, o6, o7, o8, o9, o10, o11, o12] = true)
    (f0 : Region.free .any #[o0, o1, o2, o3, o4, o5, o6, o7, o8, o9, o10, o11, o12] #[false, false, false, false, false, false, false, false, false, false, false, false, false] 0 = true) (r0 : (Region.ready .any #[o0, o1, o2, o3, o4, o5, o6, o7, o8, o9, o10, o11, o12] #[false, false, false, false, false, false, false, false, false, false, false, false, false]).contains 0 = true)
    (f2 : Region.free .any #[o0, o1, o2, o3, o4, o5, o6, o7, o8, o9, o10, o11, o12] #[true, false, false, false, false, false, false, false, false, false, false, false, false] 2 = true) (r2 : (Region.ready .any #[o0, o1, o2, o3, o4, o5, o6, o7, o8, o9, o10, o11, o12] #[true, false, false, false, false, false, false, false, false, false, false, false, false]).contains 2 = true)
    (f4 : Region.free .any #[o0, o1, o2, o3, o4, o5, o6, o7, o8, o9, o10, o11, o12] #[true, false, true, false, false, false, false, false, false, false, false, false, false] 4 = true) (r4 : (Region.ready .any #[o0, o1, o2, o3, o4, o5, o6, o7, o8, o9, o10, o11, o12] #[true, false, true, false, false, false, false, false, false, false, false, false, false]).contains 4 = true)
    (f6 : Region.free .any #[o0, o1, o2, o3, o4, o5, o6, o7, o8, o9, o10, o11, o12] #[true, false, true, false, true, false, false, false, false, false, false, false, false] 6 = true) (r6 : (Region.ready .any #[o0, o1, o2, o3, o4, o5, o6, o7, o8, o9, o10, o11, o12] #[true, false, true, false, true, false, false, false, false, false, false, false, false]).contains 6 = true)
    (f7 : Region.free .any #[o0, o1, o2, o3, o4, o5, o6, o7, o8, o9, o10, o11, o12] #[true, false, true, false, true, false, true, false, false, false, false, false, false] 7 = true) (r7 : (Region.ready .any #[o0, o1, o2, o3, o4, o5, o6, o7, o8, o9, o10, o11, o12] #[true, false, true, false, true, false, true, false, false, false, false, false, false]).contains 7 = true)
    (f8 : Region.free .any #[o0, o1, o2, o3, o4, o5, o6, o7, o8, o9, o10, o11, o12] #[true, false, true, false, true, false, true, true, false, false, false, false, false] 8 = true) (r8 : (Region.ready .any #[o0, o1, o2, o3, o4, o5, o6, o7, o8, o9, o10, o11, o12] #[true, false, true, false, true, false, true, true, false, false, false, false, false]).contains 8 = true)
    (f9 : Region.free .any #[o0, o1, o2, o3, o4, o5, o6, o7, o8, o9, o10, o11, o12] #[true, false, true, false, true, false, true, true, true, false, false, false, false] 9 = true) (r9 : (Region.ready .any #[o0, o1, o2, o3, o4, o5, o6, o7, o8, o9, o10, o11, o12] #[true, false, true, false, true, false, true, true, true, false, false, false, false]).contains 9 = true)
    (q_ : Region.ready .any #[o0, o1, o2, o3, o4, o5, o6, o7, o8, o9, o10, o11, o12] #[true, false, true, false, true, false, true, true, true, true, false, false, false] = [1, 11])
    (q1_ : Region.ready .any #[o0, o1, o2, o3, o4, o5, o6, o7, o8, o9, o10, o11, o12] #[true, true, true, false, true, false, true, true, true, true, false, false, false] = [3, 11])
    (q11_ : Region.ready .any #[o0, o1, o2, o3, o4, o5, o6, o7, o8, o9, o10, o11, o12] #[true, false, true, false, true, false, true, true, true, true, false, true, false] = [1])
    (q1_3_ : Region.ready .any #[o0, o1, o2, o3, o4, o5, o6, o7, o8, o9, o10, o11, o12] #[true, true, true, true, true, false, true, true, true, true, false, false, false] = [5, 11])
    (f1_3_5_10 : Region.free .any #[o0, o1, o2, o3, o4, o5, o6, o7, o8, o9, o10, o11, o12] #[true, true, true, true, true, true, true, true, true, true, false, false, false] 10 = true) (r1_3_5_10 : (Region.ready .any #[o0, o1, o2, o3, o4, o5, o6, o7, o8, o9, o10, o11, o12] #[true, true, true, true, true, true, true, true, true, true, false, false, false]).contains 10 = true)
    (q1_11_ : Region.ready .any #[o0, o1, o2, o3, o4, o5, o6, o7, o8, o9, o10, o11, o12] #[true, true, true, false, true, false, true, true, true, true, false, true, false] = [3])
    (q1_3_5_ : Region.ready .any #[o0, o1, o2, o3, o4, o5, o6, o7, o8, o9, o10, o11, o12] #[true, true, true, true, true, true, true, true, true, true, true, false, false] = [11])
    (q1_3_11_ : Region.ready .any #[o0, o1, o2, o3, o4, o5, o6, o7, o8, o9, o10, o11, o12] #[true, true, true, true, true, false, true, true, true, true, false, true, false] = [5])
    (f1_3_11_5_10 : Region.free .any #[o0, o1, o2, o3, o4, o5, o6, o7, o8, o9, o10, o11, o12] #[true, true, true, true, true, true, true, true, true, true, false, true, false] 10 = true) (r1_3_11_5_10 : (Region.ready .any #[o0, o1, o2, o3, o4, o5, o6, o7, o8, o9, o10, o11, o12] #[true, true, true, true, true, true, true, true, true, true, false, true, false]).contains 10 = true)
    (q1_3_5_11_ : Region.ready .any #[o0, o1, o2, o3, o4, o5, o6, o7, o8, o9, o10, o11, o12] #[true, true, true, true, true, true, true, true, true, true, true, true, false] = [12])
    (q1_3_5_11_12_ : Region.ready .any #[o0, o1, o2, o3, o4, o5, o6, o7, o8, o9, o10, o11, o12] #[true, true, true, true, true, true, true, true, true, true, true, true, true] = [])
    (g1 : o1.guard = none)    (g3 : o3.guard = none)    (g5 : o5.guard = none)    (g11 : o11.guard = none)    (g12 : o12.guard = none)
    (ne11_1 : ∀ d, o11.dst = some d → o1.dst ≠ some d)
    (ne11_3 : ∀ d, o11.dst = some d → o3.dst ≠ some d)
    (ne11_5 : ∀ d, o11.dst = some d → o5.dst ≠ some d)
    (ne11_10 : ∀ d, o11.dst = some d → o10.dst ≠ some d)
    (v0 v2 v4 v6 v7 v8 v9 : Value) (A0 A1 A2 A3 A4 A5 A6 : Act)
    (S : World → Prop)
    (I_ : World → Prop)
    (I1_ : Value → World → Prop)
    (I11_ : Value → World → Prop)
    (I1_3_ : Value → Value → World → Prop)
    (I1_11_ : Value → Value → World → Prop)
    (I1_3_5_ : Value → Value → Value → World → Prop)
    (I1_3_11_ : Value → Value → Value → World → Prop)
    (I1_3_5_11_ : Value → Value → Value → Value → World → Prop)
    (I1_3_5_11_12_ : Value → Value → Value → Value → Value → World → Prop)
    (v10 : Value → Value → Value → Value)
    (p0 : a.put o0.dst v0 = A0) (hy0 : YieldsIf P #[o0, o1, o2, o3, o4, o5, o6, o7, o8, o9, o10, o11, o12] S o0 v0 a)
    (p2 : A0.put o2.dst v2 = A1) (hy2 : YieldsIf P #[o0, o1, o2, o3, o4, o5, o6, o7, o8, o9, o10, o11, o12] S o2 v2 A0)
    (p4 : A1.put o4.dst v4 = A2) (hy4 : YieldsIf P #[o0, o1, o2, o3, o4, o5, o6, o7, o8, o9, o10, o11, o12] S o4 v4 A1)
    (p6 : A2.put o6.dst v6 = A3) (hy6 : YieldsIf P #[o0, o1, o2, o3, o4, o5, o6, o7, o8, o9, o10, o11, o12] S o6 v6 A2)
    (p7 : A3.put o7.dst v7 = A4) (hy7 : YieldsIf P #[o0, o1, o2, o3, o4, o5, o6, o7, o8, o9, o10, o11, o12] S o7 v7 A3)
    (p8 : A4.put o8.dst v8 = A5) (hy8 : YieldsIf P #[o0, o1, o2, o3, o4, o5, o6, o7, o8, o9, o10, o11, o12] S o8 v8 A4)
    (p9 : A5.put o9.dst v9 = A6) (hy9 : YieldsIf P #[o0, o1, o2, o3, o4, o5, o6, o7, o8, o9, o10, o11, o12] S o9 v9 A5)
    (i0 : I_ w.drew)
    (hIS : (∀ w', I_  w' → S w') ∧ (∀ (u1 : Value) w', I1_ u1 w' → S w') ∧ (∀ (u11 : Value) w', I11_ u11 w' → S w') ∧ (∀ (u1 u3 : Value) w', I1_3_ u1 u3 w' → S w') ∧ (∀ (u1 u11 : Value) w', I1_11_ u1 u11 w' → S w') ∧ (∀ (u1 u3 u5 : Value) w', I1_3_5_ u1 u3 u5 w' → S w') ∧ (∀ (u1 u3 u11 : Value) w', I1_3_11_ u1 u3 u11 w' → S w') ∧ (∀ (u1 u3 u5 u11 : Value) w', I1_3_5_11_ u1 u3 u5 u11 w' → S w') ∧ (∀ (u1 u3 u5 u11 u12 : Value) w', I1_3_5_11_12_ u1 u3 u5 u11 u12 w' → S w'))
    (s_1 : ∀ w', I_  w' → ∀ K : Act → World → Prop, (∀ (u1 : Value) w2, I1_ u1 w2 → K (A6.put o1.dst u1) w2) → o1.wp P A6 w' K (NoPanic Q))
    (s_11 : ∀ w', I_  w' → ∀ K : Act → World → Prop, (∀ (u11 : Value) w2, I11_ u11 w2 → K (A6.put o11.dst u11) w2) → o11.wp P A6 w' K (NoPanic Q))
    (s1_3 : ∀ (u1 : Value) w', I1_ u1 w' → ∀ K : Act → World → Prop, (∀ (u3 : Value) w2, I1_3_ u1 u3 w2 → K ((A6.put o1.dst u1).put o3.dst u3) w2) → o3.wp P (A6.put o1.dst u1) w' K (NoPanic Q))
    (s1_11 : ∀ (u1 : Value) w', I1_ u1 w' → ∀ K : Act → World → Prop, (∀ (u11 : Value) w2, I1_11_ u1 u11 w2 → K ((A6.put o1.dst u1).put o11.dst u11) w2) → o11.wp P (A6.put o1.dst u1) w' K (NoPanic Q))
    (s11_1 : ∀ (u11 : Value) w', I11_ u11 w' → ∀ K : Act → World → Prop, (∀ (u1 : Value) w2, I1_11_ u1 u11 w2 → K ((A6.put o11.dst u11).put o1.dst u1) w2) → o1.wp P (A6.put o11.dst u11) w' K (NoPanic Q))
    (s1_3_5 : ∀ (u1 u3 : Value) w', I1_3_ u1 u3 w' → ∀ K : Act → World → Prop, (∀ (u5 : Value) w2, I1_3_5_ u1 u3 u5 w2 → K (((A6.put o1.dst u1).put o3.dst u3).put o5.dst u5) w2) → o5.wp P ((A6.put o1.dst u1).put o3.dst u3) w' K (NoPanic Q))
    (s1_3_11 : ∀ (u1 u3 : Value) w', I1_3_ u1 u3 w' → ∀ K : Act → World → Prop, (∀ (u11 : Value) w2, I1_3_11_ u1 u3 u11 w2 → K (((A6.put o1.dst u1).put o3.dst u3).put o11.dst u11) w2) → o11.wp P ((A6.put o1.dst u1).put o3.dst u3) w' K (NoPanic Q))
    (s1_11_3 : ∀ (u1 u11 : Value) w', I1_11_ u1 u11 w' → ∀ K : Act → World → Prop, (∀ (u3 : Value) w2, I1_3_11_ u1 u3 u11 w2 → K (((A6.put o1.dst u1).put o11.dst u11).put o3.dst u3) w2) → o3.wp P ((A6.put o1.dst u1).put o11.dst u11) w' K (NoPanic Q))
    (s1_3_5_11 : ∀ (u1 u3 u5 : Value) w', I1_3_5_ u1 u3 u5 w' → ∀ K : Act → World → Prop, (∀ (u11 : Value) w2, I1_3_5_11_ u1 u3 u5 u11 w2 → K (((((A6.put o1.dst u1).put o3.dst u3).put o5.dst u5).put o10.dst (v10 u1 u3 u5)).put o11.dst u11) w2) → o11.wp P ((((A6.put o1.dst u1).put o3.dst u3).put o5.dst u5).put o10.dst (v10 u1 u3 u5)) w' K (NoPanic Q))
    (s1_3_11_5 : ∀ (u1 u3 u11 : Value) w', I1_3_11_ u1 u3 u11 w' → ∀ K : Act → World → Prop, (∀ (u5 : Value) w2, I1_3_5_11_ u1 u3 u5 u11 w2 → K ((((A6.put o1.dst u1).put o3.dst u3).put o11.dst u11).put o5.dst u5) w2) → o5.wp P (((A6.put o1.dst u1).put o3.dst u3).put o11.dst u11) w' K (NoPanic Q))
    (s1_3_5_11_12 : ∀ (u1 u3 u5 u11 : Value) w', I1_3_5_11_ u1 u3 u5 u11 w' → ∀ K : Act → World → Prop, (∀ (u12 : Value) w2, I1_3_5_11_12_ u1 u3 u5 u11 u12 w2 → K ((((((A6.put o1.dst u1).put o3.dst u3).put o5.dst u5).put o10.dst (v10 u1 u3 u5)).put o11.dst u11).put o12.dst u12) w2) → o12.wp P (((((A6.put o1.dst u1).put o3.dst u3).put o5.dst u5).put o10.dst (v10 u1 u3 u5)).put o11.dst u11) w' K (NoPanic Q))
    (y1_3_5_10 : ∀ (u1 u3 u5 : Value) w', I1_3_5_ u1 u3 u5 w' → YieldsIf P #[o0, o1, o2, o3, o4, o5, o6, o7, o8, o9, o10, o11, o12] S o10 (v10 u1 u3 u5) (((A6.put o1.dst u1).put o3.dst u3).put o5.dst u5))
    (y1_3_11_5_10 : ∀ (u1 u3 u5 u11 : Value) w', I1_3_5_11_ u1 u3 u5 u11 w' → YieldsIf P #[o0, o1, o2, o3, o4, o5, o6, o7, o8, o9, o10, o11, o12] S o10 (v10 u1 u3 u5) ((((A6.put o1.dst u1).put o3.dst u3).put o5.dst u5).put o11.dst u11))
    (h : ∀ (u1 u3 u5 u11 u12 : Value) w', I1_3_5_11_12_ u1 u3 u5 u11 u12 w' → Q .normal ((((((A6.put o1.dst u1).put o3.dst u3).put o5.dst u5).put o10.dst (v10 u1 u3 u5)).put o11.dst u11).put o12.dst u12) w') :
    (Code.region id #[o0, o1, o2, o3, o4, o5, o6, o7, o8, o9, o10, o11, o12] true).wp P Q a w := by
  subst p0 p2 p4 p6 p7 p8 p9
  obtain ⟨z_, z1_, z11_, z1_3_, z1_11_, z1_3_5_, z1_3_11_, z1_3_5_11_, z1_3_5_11_12_⟩ := hIS
  refine wp_region_noPanic ?_
  refine wp_region_held_drew (S := S) hm (z_ _ i0) (fun hH => ?_)
  show wpAnyH P .any #[o0, o1, o2, o3, o4, o5, o6, o7, o8, o9, o10, o11, o12] (NoPanic Q) S 13 #[false, false, false, false, false, false, false, false, false, false, false, false, false] a w.drew
  refine wpAnyH_take (i := 0) (oi := o0) rfl hs f0 r0 (fun _ _ _ h => h) hy0 hH ?_
  refine wpAnyH_take (i := 2) (oi := o2) rfl hs f2 r2 (fun _ _ _ h => h) hy2 hH ?_
  refine wpAnyH_take (i := 4) (oi := o4) rfl hs f4 r4 (fun _ _ _ h => h) hy4 hH ?_
  refine wpAnyH_take (i := 6) (oi := o6) rfl hs f6 r6 (fun _ _ _ h => h) hy6 hH ?_
  refine wpAnyH_take (i := 7) (oi := o7) rfl hs f7 r7 (fun _ _ _ h => h) hy7 hH ?_
  refine wpAnyH_take (i := 8) (oi := o8) rfl hs f8 r8 (fun _ _ _ h => h) hy8 hH ?_
  refine wpAnyH_take (i := 9) (oi := o9) rfl hs f9 r9 (fun _ _ _ h => h) hy9 hH ?_
  generalize (((((((a.put o0.dst v0).put o2.dst v2).put o4.dst v4).put o6.dst v6).put o7.dst v7).put o8.dst v8).put o9.dst v9) = B at *
  have wa1 : ∀ y, Region.wanted o1 y = true := fun y => by unfold Region.wanted; rw [g1]
  have wa3 : ∀ y, Region.wanted o3 y = true := fun y => by unfold Region.wanted; rw [g3]
  have wa5 : ∀ y, Region.wanted o5 y = true := fun y => by unfold Region.wanted; rw [g5]
  have wa11 : ∀ y, Region.wanted o11 y = true := fun y => by unfold Region.wanted; rw [g11]
  have wa12 : ∀ y, Region.wanted o12 y = true := fun y => by unfold Region.wanted; rw [g12]
  have t1_3_5_11_12_ : ∀ (u1 u3 u5 u11 u12 : Value) w', I1_3_5_11_12_ u1 u3 u5 u11 u12 w' → wpAnyH P .any #[o0, o1, o2, o3, o4, o5, o6, o7, o8, o9, o10, o11, o12] (NoPanic Q) S 0 #[true, true, true, true, true, true, true, true, true, true, true, true, true] ((((((B.put o1.dst u1).put o3.dst u3).put o5.dst u5).put o10.dst (v10 u1 u3 u5)).put o11.dst u11).put o12.dst u12) w' := by
    intro u1 u3 u5 u11 u12 w0 i0
    exact ⟨q1_3_5_11_12_, NoPanic.normal (h u1 u3 u5 u11 u12 w0 i0)⟩
  have t1_3_5_11_ : ∀ (u1 u3 u5 u11 : Value) w', I1_3_5_11_ u1 u3 u5 u11 w' → wpAnyH P .any #[o0, o1, o2, o3, o4, o5, o6, o7, o8, o9, o10, o11, o12] (NoPanic Q) S 1 #[true, true, true, true, true, true, true, true, true, true, true, true, false] (((((B.put o1.dst u1).put o3.dst u3).put o5.dst u5).put o10.dst (v10 u1 u3 u5)).put o11.dst u11) w' := by
    intro u1 u3 u5 u11 w0 i0
    refine wpAnyH_ready (rs := [12]) q1_3_5_11_ (by simp) (AllReadyH.cons (o := o12) rfl (fun K hK => ?_) AllReadyH.nil)
    · rw [if_pos (wa12 _)]
      refine s1_3_5_11_12 u1 u3 u5 u11 w0 i0 K (fun u12 w1 i1 => hK.out _ _ (z1_3_5_11_12_ u1 u3 u5 u11 u12 w1 i1) (fun _ => ?_))
      clear hK
      exact t1_3_5_11_12_ u1 u3 u5 u11 u12 w1 i1
  have t1_3_11_ : ∀ (u1 u3 u11 : Value) w', I1_3_11_ u1 u3 u11 w' → wpAnyH P .any #[o0, o1, o2, o3, o4, o5, o6, o7, o8, o9, o10, o11, o12] (NoPanic Q) S 3 #[true, true, true, true, true, false, true, true, true, true, false, true, false] (((B.put o1.dst u1).put o3.dst u3).put o11.dst u11) w' := by
    intro u1 u3 u11 w0 i0
    refine wpAnyH_ready (rs := [5]) q1_3_11_ (by simp) (AllReadyH.cons (o := o5) rfl (fun K hK => ?_) AllReadyH.nil)
    · rw [if_pos (wa5 _)]
      refine s1_3_11_5 u1 u3 u11 w0 i0 K (fun u5 w1 i1 => hK.out _ _ (z1_3_5_11_ u1 u3 u5 u11 w1 i1) (fun _ => ?_))
      clear hK
      rw [Act.put_comm _ _ _ ne11_5]
      refine wpAnyH_take (i := 10) (oi := o10) rfl hs f1_3_11_5_10 r1_3_11_5_10 (fun _ _ _ h => h) (y1_3_11_5_10 u1 u3 u5 u11 w1 i1) (z1_3_5_11_ u1 u3 u5 u11 w1 i1) ?_
      rw [Act.put_comm _ _ _ ne11_10]
      exact t1_3_5_11_ u1 u3 u5 u11 w1 i1
  have t1_3_5_ : ∀ (u1 u3 u5 : Value) w', I1_3_5_ u1 u3 u5 w' → wpAnyH P .any #[o0, o1, o2, o3, o4, o5, o6, o7, o8, o9, o10, o11, o12] (NoPanic Q) S 2 #[true, true, true, true, true, true, true, true, true, true, true, false, false] ((((B.put o1.dst u1).put o3.dst u3).put o5.dst u5).put o10.dst (v10 u1 u3 u5)) w' := by
    intro u1 u3 u5 w0 i0
    refine wpAnyH_ready (rs := [11]) q1_3_5_ (by simp) (AllReadyH.cons (o := o11) rfl (fun K hK => ?_) AllReadyH.nil)
    · rw [if_pos (wa11 _)]
      refine s1_3_5_11 u1 u3 u5 w0 i0 K (fun u11 w1 i1 => hK.out _ _ (z1_3_5_11_ u1 u3 u5 u11 w1 i1) (fun _ => ?_))
      clear hK
      exact t1_3_5_11_ u1 u3 u5 u11 w1 i1
  have t1_11_ : ∀ (u1 u11 : Value) w', I1_11_ u1 u11 w' → wpAnyH P .any #[o0, o1, o2, o3, o4, o5, o6, o7, o8, o9, o10, o11, o12] (NoPanic Q) S 4 #[true, true, true, false, true, false, true, true, true, true, false, true, false] ((B.put o1.dst u1).put o11.dst u11) w' := by
    intro u1 u11 w0 i0
    refine wpAnyH_ready (rs := [3]) q1_11_ (by simp) (AllReadyH.cons (o := o3) rfl (fun K hK => ?_) AllReadyH.nil)
    · rw [if_pos (wa3 _)]
      refine s1_11_3 u1 u11 w0 i0 K (fun u3 w1 i1 => hK.out _ _ (z1_3_11_ u1 u3 u11 w1 i1) (fun _ => ?_))
      clear hK
      rw [Act.put_comm _ _ _ ne11_3]
      exact t1_3_11_ u1 u3 u11 w1 i1
  have t1_3_ : ∀ (u1 u3 : Value) w', I1_3_ u1 u3 w' → wpAnyH P .any #[o0, o1, o2, o3, o4, o5, o6, o7, o8, o9, o10, o11, o12] (NoPanic Q) S 4 #[true, true, true, true, true, false, true, true, true, true, false, false, false] ((B.put o1.dst u1).put o3.dst u3) w' := by
    intro u1 u3 w0 i0
    refine wpAnyH_ready (rs := [5, 11]) q1_3_ (by simp) (AllReadyH.cons (o := o5) rfl (fun K hK => ?_) (AllReadyH.cons (o := o11) rfl (fun K hK => ?_) AllReadyH.nil))
    · rw [if_pos (wa5 _)]
      refine s1_3_5 u1 u3 w0 i0 K (fun u5 w1 i1 => hK.out _ _ (z1_3_5_ u1 u3 u5 w1 i1) (fun _ => ?_))
      clear hK
      refine wpAnyH_take (i := 10) (oi := o10) rfl hs f1_3_5_10 r1_3_5_10 (fun _ _ _ h => h) (y1_3_5_10 u1 u3 u5 w1 i1) (z1_3_5_ u1 u3 u5 w1 i1) ?_
      exact t1_3_5_ u1 u3 u5 w1 i1
    · rw [if_pos (wa11 _)]
      refine s1_3_11 u1 u3 w0 i0 K (fun u11 w1 i1 => hK.out _ _ (z1_3_11_ u1 u3 u11 w1 i1) (fun _ => ?_))
      clear hK
      exact t1_3_11_ u1 u3 u11 w1 i1
  have t11_ : ∀ (u11 : Value) w', I11_ u11 w' → wpAnyH P .any #[o0, o1, o2, o3, o4, o5, o6, o7, o8, o9, o10, o11, o12] (NoPanic Q) S 5 #[true, false, true, false, true, false, true, true, true, true, false, true, false] (B.put o11.dst u11) w' := by
    intro u11 w0 i0
    refine wpAnyH_ready (rs := [1]) q11_ (by simp) (AllReadyH.cons (o := o1) rfl (fun K hK => ?_) AllReadyH.nil)
    · rw [if_pos (wa1 _)]
      refine s11_1 u11 w0 i0 K (fun u1 w1 i1 => hK.out _ _ (z1_11_ u1 u11 w1 i1) (fun _ => ?_))
      clear hK
      rw [Act.put_comm _ _ _ ne11_1]
      exact t1_11_ u1 u11 w1 i1
  have t1_ : ∀ (u1 : Value) w', I1_ u1 w' → wpAnyH P .any #[o0, o1, o2, o3, o4, o5, o6, o7, o8, o9, o10, o11, o12] (NoPanic Q) S 5 #[true, true, true, false, true, false, true, true, true, true, false, false, false] (B.put o1.dst u1) w' := by
    intro u1 w0 i0
    refine wpAnyH_ready (rs := [3, 11]) q1_ (by simp) (AllReadyH.cons (o := o3) rfl (fun K hK => ?_) (AllReadyH.cons (o := o11) rfl (fun K hK => ?_) AllReadyH.nil))
    · rw [if_pos (wa3 _)]
      refine s1_3 u1 w0 i0 K (fun u3 w1 i1 => hK.out _ _ (z1_3_ u1 u3 w1 i1) (fun _ => ?_))
      clear hK
      exact t1_3_ u1 u3 w1 i1
    · rw [if_pos (wa11 _)]
      refine s1_11 u1 w0 i0 K (fun u11 w1 i1 => hK.out _ _ (z1_11_ u1 u11 w1 i1) (fun _ => ?_))
      clear hK
      exact t1_11_ u1 u11 w1 i1
  have t_ : ∀ w', I_  w' → wpAnyH P .any #[o0, o1, o2, o3, o4, o5, o6, o7, o8, o9, o10, o11, o12] (NoPanic Q) S 6 #[true, false, true, false, true, false, true, true, true, true, false, false, false] B w' := by
    intro w0 i0
    refine wpAnyH_ready (rs := [1, 11]) q_ (by simp) (AllReadyH.cons (o := o1) rfl (fun K hK => ?_) (AllReadyH.cons (o := o11) rfl (fun K hK => ?_) AllReadyH.nil))
    · rw [if_pos (wa1 _)]
      refine s_1  w0 i0 K (fun u1 w1 i1 => hK.out _ _ (z1_ u1 w1 i1) (fun _ => ?_))
      clear hK
      exact t1_ u1 w1 i1
    · rw [if_pos (wa11 _)]
      refine s_11  w0 i0 K (fun u11 w1 i1 => hK.out _ _ (z11_ u11 w1 i1) (fun _ => ?_))
      clear hK
      exact t11_ u11 w1 i1
  exact t_ w.drew i0

end
end Go.Proofs.YtckkalmhekfnhaaGreatDoor
/-
  One operation: a call, by its contract.
-/
namespace Go.Proofs.YtckkalmhekfnhaaGreatDoor
open Go Go.RowKit Go.BigFrame
set_option linter.unusedVariables false
set_option linter.unusedSimpArgs false

theorem wp_callN {o : Oper} {a : Act} {w : World} {K : Act → World → Prop} {Q : Exit → Act → World → Prop} {f : FuncId} {xs : Array Operand} {ts : Array TypeId} (ho : o.op = .call { callee := .value (.func f), args := xs, argTypes := ts })
    (hcl : ∀ args W, (callFunc f args).run Tryz.prog W = .ok (.enter f args) W) (us : List Value) (he : xs.toList.map a.eval = us) {R : Ending → World → Prop}
    (hc : Calls Tryz.prog f us.toArray w R) (h : ∀ e w', R e w' → ∃ v, e = .returned v ∧ K (a.put o.dst v) w') : o.wp Tryz.prog a w K Q := by
  have he2 : xs.map a.eval = us.toArray := by rw [← he]; cases xs; simp only [List.map_toArray]
  unfold Oper.wp execOp
  simp only [ho]
  have hf : a.eval (.func f) = .func (.func f) #[] #[] := rfl
  simp only [resolve, invoke, hf, he2, Sem.run_bind, Sem.run_pure, Result.andThen_ok, hcl]
  simp [Deferred.ofValue, hcl, go_sem]
  refine hc.mono ?_
  intro e w2 h2
  obtain ⟨v, rfl, h3⟩ := h e w2 h2
  exact h3
end Go.Proofs.YtckkalmhekfnhaaGreatDoor
namespace Go.Proofs.YtckkalmhekfnhaaGreatDoor
open Go.RowKit Go.BigFrame
set_option linter.unusedVariables false
set_option linter.unusedSimpArgs false

theorem put4_heap {w : World} {g : Nat} {a b c d : Value} {t : TypeId} (h : w.heap[g]? = some (.cells #[a, b, c, d] t (0, 0))) (x y z u : Value) : ((((w.setCell ⟨g, 0, none⟩ x).setCell ⟨g, 1, none⟩ y).setCell ⟨g, 2, none⟩ z).setCell ⟨g, 3, none⟩ u).heap[g]? = some (.cells #[x, y, z, u] t (0, 0)) := by
  rw [heap_setCell_same _ g 3 _ t _ (heap_setCell_same _ g 2 _ t _ (heap_setCell_same _ g 1 _ t _ (heap_setCell_same w g 0 _ t _ h)))]; rfl
theorem put4_kept {w0 w : World} (k : Kept [] w0 w) (g : Nat) (hg : w0.heap.size ≤ g) (x y z u : Value) : Kept [] w0 ((((w.setCell ⟨g, 0, none⟩ x).setCell ⟨g, 1, none⟩ y).setCell ⟨g, 2, none⟩ z).setCell ⟨g, 3, none⟩ u) := (((k.setCell (Or.inr hg) x).setCell (Or.inr hg) y).setCell (Or.inr hg) z).setCell (Or.inr hg) u
theorem Tryz.size_head : (Tryz.prog.info? 32).map (·.size) = some 4 := by kernel_rfl
theorem hfroz {w : World} {b : Nat} {cs : Array Value} {t : TypeId} (h : w.heap[b]? = some (.cells cs t (0, 0))) : w.frozen? ⟨b, 0, none⟩ = false ∧ w.frozen? ⟨b, 1, none⟩ = false ∧ w.frozen? ⟨b, 2, none⟩ = false ∧ w.frozen? ⟨b, 3, none⟩ = false :=
  ⟨frozen_of_row _ _ _ _ _ h, frozen_of_row _ _ _ _ _ h, frozen_of_row _ _ _ _ _ h, frozen_of_row _ _ _ _ _ h⟩
theorem wp_allochead {o : Oper} {a : Act} {w : World} {K : Act → World → Prop} {Q : Exit → Act → World → Prop} (ho : o.op = .alloc 32) (h : K (a.put o.dst (.pointer (some ⟨w.heap.size, 0, none⟩))) (w.alloc (.cells #[.int .u64 0, .int .u64 0, .int .u64 0, .int .i64 0] 32))) : o.wp Tryz.prog a w K Q := by
  unfold Oper.wp execOp
  simp only [ho]
  go_simp
  exact h
theorem wrap_small {n : Nat} (h : n < 256) : IntKind.i64.wrap (n : Int) = (n : Int) := by
  simp [IntKind.wrap, IntKind.bits, IntKind.signed]; omega
/-- A head that was laid behind W. -/
def Ald (W : World) (u : Value) (cs : Array Value) (w : World) : Prop := ∃ g, u = .pointer (some ⟨g, 0, none⟩) ∧ W.heap.size ≤ g ∧ w.heap[g]? = some (.cells cs 32 (0, 0))
theorem ald_new {W w : World} (k : Kept [] W w) : Ald W (.pointer (some ⟨w.heap.size, 0, none⟩)) #[.int .u64 0, .int .u64 0, .int .u64 0, .int .i64 0] (w.alloc (.cells #[.int .u64 0, .int .u64 0, .int .u64 0, .int .i64 0] 32)) := ⟨_, rfl, k.size, heap_alloc_new _ _⟩
/-- The head with which p begins. -/
structure HdR where
  a : Nat
  b : Nat
  c : Nat
  d : Nat
def payH (pl : Nat) (pay : List Nat) : Bool := decide (pay.length = 30 ∧ pay.take 5 = [78, 84, 82, 89, 49] ∧ beL ((pay.drop 5).take 8) = pl ∧ 1 ≤ pay.getD 29 0 ∧ pay.getD 29 0 ≤ 32)
def hdF (p : List Nat) : Option HdR := match firstF p with
  | none => none
  | some x => if payH x.1 x.2 then some ⟨beL ((x.2.drop 5).take 8), beL ((x.2.drop 13).take 8), beL ((x.2.drop 21).take 8), x.2.getD 29 0⟩ else none
def hdC (p : List Nat) : HdR := (hdF p).getD ⟨0, 0, 0, 0⟩
def hdN (p : List Nat) : Nat := if (hdF p).isSome then 48 else 0
theorem nextF_kind {p : List Nat} (h : (nextF p 0).kind ≠ 1) : hdF p = none := by
  cases hf : firstF p with
  | none => unfold hdF; rw [hf]
  | some x =>
    exfalso
    apply h
    unfold nextF
    have hp : 0 < p.length := by
      rcases Nat.eq_zero_or_pos p.length with h0 | h0
      · rw [firstF_short (by omega)] at hf; cases hf
      · exact h0
    rw [if_neg (by omega), if_neg (by omega)]
    simp [hf]

set_option maxRecDepth 100000 in
set_option maxHeartbeats 4000000 in
theorem readHead_any (v : Value) (p : List Nat) (w : World) (h : Rd w v p) :
    Calls Tryz.prog 42 #[v] w fun e w' => e = .returned (.tuple #[.agg #[.int .u64 (hdC p).a, .int .u64 (hdC p).b, .int .u64 (hdC p).c, .int .i64 (hdC p).d], .int .i64 (hdN p), .bool (hdF p).isSome]) ∧ Kept [] w w' := by
  have H := hide h
  obtain ⟨a1, n1, c1, rfl, hn1, _⟩ := id h
  subst hn1
  clear h
  have HZ0 := hide (heap_alloc_new w (.cells #[.int .u64 0, .int .u64 0, .int .u64 0, .int .i64 0] 32))
  have HK0 := hide ((Kept.refl [] w).alloc (.cells #[.int .u64 0, .int .u64 0, .int .u64 0, .int .i64 0] 32))
  obtain ⟨X, hX⟩ : ∃ X, hdC p = X := ⟨_, rfl⟩
  obtain ⟨Y, hY⟩ : ∃ Y, hdN p = Y := ⟨_, rfl⟩
  obtain ⟨Z, hZ⟩ : ∃ Z, (hdF p).isSome = Z := ⟨_, rfl⟩
  rw [hX, hY, hZ]
  have HNO := hide (fun (h0 : hdF p = none) => by
    rw [← hX, ← hY, ← hZ]
    exact ⟨by simp [hdC, h0], by simp [hdN, h0], by simp [h0]⟩ : hdF p = none → X = ⟨0, 0, 0, 0⟩ ∧ Y = 0 ∧ Z = false)
  have HYE := hide (fun (x : HdR) (h0 : hdF p = some x) => by
    rw [← hX, ← hY, ← hZ]
    exact ⟨by simp [hdC, h0], by simp [hdN, h0], by simp [h0]⟩ : ∀ x, hdF p = some x → X = x ∧ Y = 48 ∧ Z = true)
  clear hX hY hZ
  go_enter Tryz.func42, Tryz.ntmps42
  go_wp2_with fail
  refine Calls.mono (next_any _ p 0 _ ((unhide H).old (unhide HK0) (by simp)) (by omega)) ?_
  rintro e w1 ⟨v1, rfl, n1, k1⟩
  obtain ⟨av, nv, cv, rfl, hnv, _⟩ := id n1.1
  have HN1 := hide n1
  have HZ1 := hide (k1.heap (unhide HZ0) (by simp))
  have HK1 := hide ((unhide HK0).trans k1 (by simp))
  have HLT1 := hide (lt_of_block (unhide HZ1) : w.heap.size < w1.heap.size)
  clear n1 k1 hnv
  have HZW := hide (((Kept.refl [] w1).alloc (.cells #[.int .u64 ((nextF p 0).pl : Int), .slice av nv cv] 83)).heap (unhide HZ1) (by simp))
  have HKW := hide ((unhide HK1).alloc (.cells #[.int .u64 ((nextF p 0).pl : Int), .slice av nv cv] 83))
  have HFW := hide (heap_alloc_new w1 (.cells #[.int .u64 ((nextF p 0).pl : Int), .slice av nv cv] 83))
  have HNW := hide ((unhide HN1).1.old ((Kept.refl [] w1).alloc (.cells #[.int .u64 ((nextF p 0).pl : Int), .slice av nv cv] 83)) (by simp))
  obtain ⟨W1, hW1⟩ : ∃ W, w1.alloc (.cells #[.int .u64 ((nextF p 0).pl : Int), .slice av nv cv] 83) = W := ⟨_, rfl⟩
  have HS1 := hide (by rw [← hW1]; simp : w1.heap.size < W1.heap.size)
  rw [hW1] at HZW HKW HFW HNW
  have HW1 := hide hW1
  clear hW1
  obtain ⟨d0, d1, d2, d3⟩ := hcells (unhide HZW)
  obtain ⟨f0, f1, f2, f3⟩ := hfroz (unhide HZW)
  have g0 : W1.cell? ⟨w1.heap.size, 0, none⟩ = some (.int .u64 ((nextF p 0).pl : Int)) := by rw [cell_of_row _ _ _ _ _ _ (unhide HFW)]; rfl
  have g1 : W1.cell? ⟨w1.heap.size, 1, none⟩ = some (.slice av nv cv) := by rw [cell_of_row _ _ _ _ _ _ (unhide HFW)]; rfl
  have HNK := hide (fun h => nextF_kind (p := p) h)
  have hcase := nextF_cases p 0 (unhide H).byte
  by_cases hkd : (nextF p 0).kind = 1
  · rcases hcase with ⟨_, hN⟩ | ⟨_, hN⟩ | ⟨m, pl, pay, hzn, hN, b1, b2, b3, b4, b5, b6, b7⟩
    · rw [hN] at hkd; simp at hkd
    · rw [hN] at hkd; simp at hkd
    · obtain rfl : m = 0 := by omega
      rw [List.drop_zero] at b7
      rw [hN] at HN1 HFW HNW HW1 g0 ⊢
      simp only at HN1 HFW HNW HW1 g0 ⊢
      have hnv : nv = pay.length := by obtain ⟨_, _, _, e, h9, _⟩ := (unhide HN1).1; cases e; exact h9.symm
      subst hnv
      have HHF := hide (by unfold hdF; rw [b7] : hdF p = if payH pl pay then some ⟨beL ((pay.drop 5).take 8), beL ((pay.drop 13).take 8), beL ((pay.drop 21).take 8), pay.getD 29 0⟩ else none)
      have hpl : (pl : Int) ≤ 18446744073709551615 := by omega
      clear hN hkd hzn b5 b6 b7 HNK
      by_cases hl30 : pay.length = 30
      · have HPL := hide hl30
        obtain ⟨_, _, _, he9, _, hcap9, ⟨hcm9, _⟩, _, _, hcl9⟩ := id (unhide HNW)
        cases he9
        obtain ⟨bq, oq, e9, _⟩ := hcl9 (by omega)
        cases e9
        clear hcl9
        have hcv : 30 ≤ cv := by omega
        clear hcap9
        rw [hl30] at HNW HN1 HFW HW1 g1 ⊢
        clear hl30
        obtain ⟨HHF30, hhf⟩ : ∃ q, q = pay := ⟨_, rfl⟩
        clear HHF30 hhf
        have kc := fun (w : World) (C : Array Value) (n c : Nat) => Lib.run_convert_bytes_const (P := Tryz.prog) w 36 5 C n c Tryz.underlying36 Tryz.underlying5
        have hsz1 : (w1.alloc (.cells #[.int .u64 (pl : Int), .slice (some ⟨bq, oq, none⟩) 30 cv] 83)).heap.size = w1.heap.size + 1 := by simp
        have kc1 := kc (w1.alloc (.cells #[.int .u64 (pl : Int), .slice (some ⟨bq, oq, none⟩) 30 cv] 83)) #[.int .u8 78, .int .u8 84, .int .u8 82, .int .u8 89, .int .u8 49] 5 5
        rw [hsz1] at kc1
        clear kc hsz1
        rw [← unhide HW1] at g0 g1
        go_wp2_with fail
        clear kc1 d0 d1 d2 d3 f0 f1 f2 f3 g0 g1
        rw [unhide HW1]
        have HK3 := hide ((Kept.refl [] W1).alloc (.cells #[.int .u8 78, .int .u8 84, .int .u8 82, .int .u8 89, .int .u8 49] 5 (5, 6)))
        have HR3 := hide (rd_row [78, 84, 82, 89, 49] (heap_alloc_new W1 (.cells #[.int .u8 78, .int .u8 84, .int .u8 82, .int .u8 89, .int .u8 49] 5 (5, 6))) rfl (by decide) 5 rfl (by decide))
        rw [show W1.heap.size = w1.heap.size + 1 by rw [← unhide HW1]; simp] at HR3
        obtain ⟨W3, hW3⟩ : ∃ W, W1.alloc (.cells #[.int .u8 78, .int .u8 84, .int .u8 82, .int .u8 89, .int .u8 49] 5 (5, 6)) = W := ⟨_, rfl⟩
        rw [hW3] at HK3 HR3 ⊢
        clear hW3
        have HZ3 := hide ((unhide HK3).heap (unhide HZW) (by simp))
        have HF3 := hide ((unhide HK3).heap (unhide HFW) (by simp))
        have HKW3 := hide ((unhide HKW).trans (unhide HK3) (by simp))
        have HNW3 := hide ((unhide HNW).old (unhide HK3) (by simp))
        have hcut := cutP_any bq oq cv _ pay [78, 84, 82, 89, 49] W3 (by rw [unhide HPL]; exact unhide HNW3) (unhide HR3) (by rw [unhide HPL]; decide)
        rw [unhide HPL] at hcut
        refine Calls.mono hcut ?_
        clear hcut
        rintro e w4 ⟨rfl, hw4⟩
        subst w4
        obtain ⟨d0, d1, d2, d3⟩ := hcells (unhide HZ3)
        obtain ⟨f0, f1, f2, f3⟩ := hfroz (unhide HZ3)
        by_cases hpre : pay.take 5 = [78, 84, 82, 89, 49]
        · simp only [List.length_cons, List.length_nil, Nat.zero_add, Nat.reduceAdd, hpre, if_true, decide_true, Nat.reduceSub]
          have hfl : (pay.drop 5).length = 25 := by rw [List.length_drop, unhide HPL]
          have HFP := hide (by
            have h9 := Rd.cutN (n := 5) (N := 30) (p := pay) (by rw [unhide HPL]; exact unhide HNW3) (by decide) (by rw [unhide HPL]; exact Nat.le_refl _)
            rw [List.take_of_length_le (by rw [List.length_drop, unhide HPL]; exact Nat.le_refl _)] at h9
            exact h9 : Rd W3 (.slice (some ⟨bq, oq + 5, none⟩) 25 (cv - 5)) (pay.drop 5))
          obtain ⟨m0, hm0⟩ : ∃ m, beL ((pay.drop 5).take 8) = m := ⟨_, rfl⟩
          obtain ⟨m1, hm1⟩ : ∃ m, beL ((pay.drop 13).take 8) = m := ⟨_, rfl⟩
          obtain ⟨m2, hm2⟩ : ∃ m, beL ((pay.drop 21).take 8) = m := ⟨_, rfl⟩
          obtain ⟨wz, hwz⟩ : ∃ m, pay.getD 29 0 = m := ⟨_, rfl⟩
          have hwl : wz < 256 := by
            rw [← hwz, List.getD_eq_getElem?_getD, List.getElem?_eq_getElem (by rw [unhide HPL]; decide)]
            exact (unhide HNW3).byte _ (List.getElem_mem _)
          have HC24 := hide (by
            obtain ⟨_, _, _, e9, _, _, _, _, _, hcl⟩ := unhide HFP
            cases e9
            obtain ⟨b9, o9, e9, hc⟩ := hcl (by decide)
            cases e9
            have h9 := hc 24 (by decide)
            rw [← hwz]
            simpa [List.getD_eq_getElem?_getD] using h9 : W3.cell? ⟨bq, oq + 5 + 24, none⟩ = some (.int .u8 (wz : Int)))
          have hnum : ∀ w', Kept [] W3 w' → ∀ i : Nat, i < 3 → Calls Tryz.prog 76 #[.slice (some ⟨bq, oq + 5, none⟩) 25 (cv - 5), .int .i64 i] w' fun e w2 => e = .returned (.int .u64 (beL (((pay.drop 5).drop (i * 8)).take 8) : Nat)) ∧ w2 = w' := by
            intro w' k i hi
            have h9 := numberAt_any bq (oq + 5) (cv - 5) i (pay.drop 5) w' (by rw [hfl]; exact (unhide HFP).old k (by simp)) hi hfl
            rw [hfl] at h9
            exact h9
          have HHF2 := hide (unhide HHF)
          rw [hm0, hm1, hm2, hwz] at HHF2
          have Hm0 := hide (by rw [← hm0]; rfl : m0 = beL (((pay.drop 5).drop (0 * 8)).take 8))
          have Hm1 := hide (by rw [← hm1, List.drop_drop] : m1 = beL (((pay.drop 5).drop (1 * 8)).take 8))
          have Hm2 := hide (by rw [← hm2, List.drop_drop] : m2 = beL (((pay.drop 5).drop (2 * 8)).take 8))
          have HPH := hide (by unfold payH; rw [hm0, hwz, unhide HPL]; simp [hpre] : payH pl pay = decide (m0 = pl ∧ 1 ≤ wz ∧ wz ≤ 32))
          clear hm0 hm1 hm2 hwz hfl HHF
          go_upto_region 7 with fail
          refine wp_sh13 (by kernel_rfl) (by kernel_rfl) (by kernel_rfl) (by kernel_rfl) (by kernel_rfl) (by kernel_rfl) (by kernel_rfl) (by kernel_rfl) (by kernel_rfl) (by kernel_rfl) (by kernel_rfl) (by kernel_rfl) (by kernel_rfl) (by kernel_rfl) (by kernel_rfl) (by kernel_rfl) (by kernel_rfl) (by kernel_rfl) (by kernel_rfl) (by kernel_rfl) (by kernel_rfl) (by kernel_rfl) (by kernel_rfl) (by kernel_rfl) (by kernel_rfl) (by kernel_rfl) (by kernel_rfl) (by kernel_rfl) (by kernel_rfl) rfl rfl rfl rfl rfl (by simp) (by simp) (by simp) (by simp)
            (.slice (some ⟨bq, oq + 5, none⟩) 25 (cv - 5)) (.slice (some ⟨bq, oq + 5, none⟩) 25 (cv - 5)) (.slice (some ⟨bq, oq + 5, none⟩) 25 (cv - 5)) (.slice (some ⟨bq, oq + 5, none⟩) 25 (cv - 5)) (.pointer (some ⟨bq, oq + 5 + 24, none⟩)) (.int .u8 (wz : Int)) (.int .i64 (wz : Int)) _ _ _ _ _ _ _
            (fun w' => w'.cell? ⟨bq, oq + 5 + 24, none⟩ = some (.int .u8 (wz : Int)))
            (fun  w' => Kept [] W3 w') (fun u1 w' => u1 = .int .u64 (m0 : Int) ∧ Kept [] W3 w') (fun u11 w' => Kept [] W3 w' ∧ Ald W3 u11 #[.int .u64 0, .int .u64 0, .int .u64 0, .int .i64 0] w') (fun u1 u3 w' => u1 = .int .u64 (m0 : Int) ∧ u3 = .int .u64 (m1 : Int) ∧ Kept [] W3 w') (fun u1 u11 w' => u1 = .int .u64 (m0 : Int) ∧ Kept [] W3 w' ∧ Ald W3 u11 #[.int .u64 0, .int .u64 0, .int .u64 0, .int .i64 0] w') (fun u1 u3 u5 w' => u1 = .int .u64 (m0 : Int) ∧ u3 = .int .u64 (m1 : Int) ∧ u5 = .int .u64 (m2 : Int) ∧ Kept [] W3 w') (fun u1 u3 u11 w' => u1 = .int .u64 (m0 : Int) ∧ u3 = .int .u64 (m1 : Int) ∧ Kept [] W3 w' ∧ Ald W3 u11 #[.int .u64 0, .int .u64 0, .int .u64 0, .int .i64 0] w') (fun u1 u3 u5 u11 w' => u1 = .int .u64 (m0 : Int) ∧ u3 = .int .u64 (m1 : Int) ∧ u5 = .int .u64 (m2 : Int) ∧ Kept [] W3 w' ∧ Ald W3 u11 #[.int .u64 0, .int .u64 0, .int .u64 0, .int .i64 0] w') (fun u1 u3 u5 u11 u12 w' => u1 = .int .u64 (m0 : Int) ∧ u3 = .int .u64 (m1 : Int) ∧ u5 = .int .u64 (m2 : Int) ∧ Kept [] W3 w' ∧ Ald W3 u11 #[.int .u64 (m0 : Int), .int .u64 (m1 : Int), .int .u64 (m2 : Int), .int .i64 (wz : Int)] w')
            (fun u1 u3 u5 => .agg #[u1, u3, u5, .int .i64 (wz : Int)])
            (by simp only [Act.put, List.setIfInBounds_toArray, List.set_cons_zero, List.set_cons_succ]; rfl) (by exact Or.inl ⟨by rfl, fun W' hW' => by go_simp⟩)
            (by simp only [Act.put, List.setIfInBounds_toArray, List.set_cons_zero, List.set_cons_succ]; rfl) (by exact Or.inl ⟨by rfl, fun W' hW' => by go_simp⟩)
            (by simp only [Act.put, List.setIfInBounds_toArray, List.set_cons_zero, List.set_cons_succ]; rfl) (by exact Or.inl ⟨by rfl, fun W' hW' => by go_simp⟩)
            (by simp only [Act.put, List.setIfInBounds_toArray, List.set_cons_zero, List.set_cons_succ]; rfl) (by exact Or.inl ⟨by rfl, fun W' hW' => by go_simp⟩)
            (by simp only [Act.put, List.setIfInBounds_toArray, List.set_cons_zero, List.set_cons_succ]; rfl) (by exact Or.inl ⟨by rfl, fun W' hW' => by go_simp⟩)
            (by simp only [Act.put, List.setIfInBounds_toArray, List.set_cons_zero, List.set_cons_succ]; rfl) (by exact Or.inl ⟨by rfl, fun W' hW' => run_load1 5 _ rfl ⟨bq, oq + 5 + 24, none⟩ rfl W' _ .u8 Tryz.underlying5 hW'⟩)
            (by simp only [Act.put, List.setIfInBounds_toArray, List.set_cons_zero, List.set_cons_succ]; rfl) (by exact Or.inl ⟨by rfl, fun W' hW' => by go_simp; exact wrap_small hwl⟩)
            ((Kept.refl [] W3).drew)
            ⟨fun  w' h => (h).cell (unhide HC24) (by simp), fun u1 w' h => (h.2).cell (unhide HC24) (by simp), fun u11 w' h => (h.1).cell (unhide HC24) (by simp), fun u1 u3 w' h => (h.2.2).cell (unhide HC24) (by simp), fun u1 u11 w' h => (h.2.1).cell (unhide HC24) (by simp), fun u1 u3 u5 w' h => (h.2.2.2).cell (unhide HC24) (by simp), fun u1 u3 u11 w' h => (h.2.2.1).cell (unhide HC24) (by simp), fun u1 u3 u5 u11 w' h => (h.2.2.2.1).cell (unhide HC24) (by simp), fun u1 u3 u5 u11 u12 w' h => (h.2.2.2.1).cell (unhide HC24) (by simp)⟩
            (by
              rintro w' k K hK
              refine wp_callN rfl Tryz.call76 [.slice (some ⟨bq, oq + 5, none⟩) 25 (cv - 5), .int .i64 0] rfl (hnum w' k 0 (by decide)) ?_
              rintro e w2 ⟨rfl, rfl⟩
              exact ⟨_, rfl, hK _ _ (⟨by rw [← unhide Hm0], k⟩)⟩) (by
              rintro w' k K hK
              exact wp_allochead rfl (hK _ _ ⟨k.alloc _, ald_new k⟩)) (by
              rintro u1 w' ⟨rfl, k⟩ K hK
              refine wp_callN rfl Tryz.call76 [.slice (some ⟨bq, oq + 5, none⟩) 25 (cv - 5), .int .i64 1] rfl (hnum w' k 1 (by decide)) ?_
              rintro e w2 ⟨rfl, rfl⟩
              exact ⟨_, rfl, hK _ _ (⟨rfl, by rw [← unhide Hm1], k⟩)⟩) (by
              rintro u1 w' ⟨rfl, k⟩ K hK
              exact wp_allochead rfl (hK _ _ ⟨rfl, k.alloc _, ald_new k⟩)) (by
              rintro u11 w' ⟨k, al⟩ K hK
              refine wp_callN rfl Tryz.call76 [.slice (some ⟨bq, oq + 5, none⟩) 25 (cv - 5), .int .i64 0] rfl (hnum w' k 0 (by decide)) ?_
              rintro e w2 ⟨rfl, rfl⟩
              exact ⟨_, rfl, hK _ _ (⟨by rw [← unhide Hm0], k, al⟩)⟩) (by
              rintro u1 u3 w' ⟨rfl, rfl, k⟩ K hK
              refine wp_callN rfl Tryz.call76 [.slice (some ⟨bq, oq + 5, none⟩) 25 (cv - 5), .int .i64 2] rfl (hnum w' k 2 (by decide)) ?_
              rintro e w2 ⟨rfl, rfl⟩
              exact ⟨_, rfl, hK _ _ (⟨rfl, rfl, by rw [← unhide Hm2], k⟩)⟩) (by
              rintro u1 u3 w' ⟨rfl, rfl, k⟩ K hK
              exact wp_allochead rfl (hK _ _ ⟨rfl, rfl, k.alloc _, ald_new k⟩)) (by
              rintro u1 u11 w' ⟨rfl, k, al⟩ K hK
              refine wp_callN rfl Tryz.call76 [.slice (some ⟨bq, oq + 5, none⟩) 25 (cv - 5), .int .i64 1] rfl (hnum w' k 1 (by decide)) ?_
              rintro e w2 ⟨rfl, rfl⟩
              exact ⟨_, rfl, hK _ _ (⟨rfl, by rw [← unhide Hm1], k, al⟩)⟩) (by
              rintro u1 u3 u5 w' ⟨rfl, rfl, rfl, k⟩ K hK
              exact wp_allochead rfl (hK _ _ ⟨rfl, rfl, rfl, k.alloc _, ald_new k⟩)) (by
              rintro u1 u3 u11 w' ⟨rfl, rfl, k, al⟩ K hK
              refine wp_callN rfl Tryz.call76 [.slice (some ⟨bq, oq + 5, none⟩) 25 (cv - 5), .int .i64 2] rfl (hnum w' k 2 (by decide)) ?_
              rintro e w2 ⟨rfl, rfl⟩
              exact ⟨_, rfl, hK _ _ (⟨rfl, rfl, by rw [← unhide Hm2], k, al⟩)⟩)
            (by
              rintro u1 u3 u5 u11 w' ⟨rfl, rfl, rfl, k, g, rfl, hg, hh⟩ K hK
              simp only [Act.put, List.setIfInBounds_toArray, List.set_cons_zero, List.set_cons_succ] at hK ⊢
              have hk2 := hK undef _ ⟨trivial, trivial, trivial, Kept.setRow k (Or.inr hg) #[.int .u64 (m0 : Int), .int .u64 (m1 : Int), .int .u64 (m2 : Int), .int .i64 (wz : Int)], g, rfl, hg, setRow_heap _ _ _ _ _ _ hh⟩
              clear hK
              exact wp_store_row 32 (.tmp 10) (.tmp 47) rfl g #[.int .u64 (m0 : Int), .int .u64 (m1 : Int), .int .u64 (m2 : Int), .int .i64 (wz : Int)] rfl rfl 32 #[.int .u64 0, .int .u64 0, .int .u64 0, .int .i64 0] hh Tryz.size_head rfl (by simp [Value.oneCell']) hk2)
            (by rintro u1 u3 u5 w' ⟨rfl, rfl, rfl, k⟩; exact Or.inl ⟨by rfl, fun W' hW' => by go_simp⟩)
            (by rintro u1 u3 u5 u11 w' ⟨rfl, rfl, rfl, k, al⟩; exact Or.inl ⟨by rfl, fun W' hW' => by go_simp⟩)
            ?_
          rintro u1 u3 u5 u11 u12 w5 ⟨rfl, rfl, rfl, k5, g, rfl, hg, hh⟩
          simp only [Act.put, List.setIfInBounds_toArray, List.set_cons_zero, List.set_cons_succ]
          have HGK := hide (k5.heap (unhide HF3) (by simp))
          have HZ5 := hide (k5.heap (unhide HZ3) (by simp))
          have HK5 := hide ((unhide HKW3).trans k5 (by simp))
          have HG5 := hide hh
          have hgn : w.heap.size ≠ g := by
            have := (unhide HKW3).size; have := lt_of_block (unhide HZ3); omega
          have HGN := hide hgn
          clear k5 hh hgn hg d0 d1 d2 d3 f0 f1 f2 f3 hnum HK3 HR3 HZ3 HF3 HKW3 HNW3
          obtain ⟨d0, d1, d2, d3⟩ := hcells (unhide HZ5)
          obtain ⟨f0, f1, f2, f3⟩ := hfroz (unhide HZ5)
          obtain ⟨x0, x1, x2, x3⟩ := hcells (unhide HG5)
          have g0 : w5.cell? ⟨w1.heap.size, 0, none⟩ = some (.int .u64 (pl : Int)) := by rw [cell_of_row _ _ _ _ _ _ (unhide HGK)]; rfl
          by_cases hpm : m0 = pl
          · have hne : ((m0 : Int) != (pl : Int)) = false := by simp [hpm]
            go_wp2_with fail
            refine Calls.mono (isWidth_any (wz : Int) _) ?_
            rintro e w6 ⟨rfl, hw6⟩
            subst w6
            have HWD := hide (by unfold wideB; simp only [decide_eq_decide]; omega : wideB (wz : Int) = decide (1 ≤ wz ∧ wz ≤ 32))
            by_cases hwd : wideB (wz : Int) = true
            · rw [hwd]
              have HV := hide (unhide HYE _ (by rw [unhide HHF2, if_pos (by rw [unhide HPH]; rw [unhide HWD] at hwd; simpa [hpm] using hwd)]))
              go_wp2
              refine bodyPost_ret (v := .tuple #[.agg #[.int .u64 (pl : Int), .int .u64 (m1 : Int), .int .u64 (m2 : Int), .int .i64 (wz : Int)], .int .i64 48, .bool true]) ?_ rfl ⟨by rw [(unhide HV).1, (unhide HV).2.1, (unhide HV).2.2, hpm]; rfl, put4_kept (unhide HK5) w.heap.size (Nat.le_refl _) _ _ _ _⟩
              exact results_cell_tmp2 rfl _ _ w.heap.size _ #[.int .u64 (pl : Int), .int .u64 (m1 : Int), .int .u64 (m2 : Int), .int .i64 (wz : Int)] (0, 0) _ rfl (put4_heap (unhide HZ5) _ _ _ _) Tryz.underlying32 rfl Tryz.size_head _ _ rfl rfl
            · rw [Bool.not_eq_true] at hwd
              rw [hwd]
              have HV := hide (unhide HNO (by rw [unhide HHF2, if_neg (by rw [unhide HPH]; rw [unhide HWD] at hwd; simpa [hpm] using hwd)]))
              go_wp2
              refine bodyPost_ret (v := .tuple #[.agg #[.int .u64 0, .int .u64 0, .int .u64 0, .int .i64 0], .int .i64 0, .bool false]) ?_ rfl ⟨by rw [(unhide HV).1, (unhide HV).2.1, (unhide HV).2.2]; rfl, put4_kept (unhide HK5) w.heap.size (Nat.le_refl _) _ _ _ _⟩
              exact results_cell_tmp2 rfl _ _ w.heap.size _ #[.int .u64 0, .int .u64 0, .int .u64 0, .int .i64 0] (0, 0) _ rfl (put4_heap (unhide HZ5) _ _ _ _) Tryz.underlying32 rfl Tryz.size_head _ _ rfl rfl
          · have hne : ((m0 : Int) != (pl : Int)) = true := by rw [bne_iff_ne]; omega
            have HV := hide (unhide HNO (by rw [unhide HHF2, if_neg (by rw [unhide HPH]; simp [hpm])]))
            go_wp2
            refine bodyPost_ret (v := .tuple #[.agg #[.int .u64 0, .int .u64 0, .int .u64 0, .int .i64 0], .int .i64 0, .bool false]) ?_ rfl ⟨by rw [(unhide HV).1, (unhide HV).2.1, (unhide HV).2.2]; rfl, put4_kept (unhide HK5) w.heap.size (Nat.le_refl _) _ _ _ _⟩
            exact results_cell_tmp2 rfl _ _ w.heap.size _ #[.int .u64 0, .int .u64 0, .int .u64 0, .int .i64 0] (0, 0) _ rfl (put4_heap (unhide HZ5) _ _ _ _) Tryz.underlying32 rfl Tryz.size_head _ _ rfl rfl
        · simp only [List.length_cons, List.length_nil, Nat.zero_add, Nat.reduceAdd, hpre, if_false, decide_false]
          have HV := hide (unhide HNO (by rw [unhide HHF, if_neg]; simp [payH, hpre]))
          go_wp2
          refine bodyPost_ret (v := .tuple #[.agg #[.int .u64 0, .int .u64 0, .int .u64 0, .int .i64 0], .int .i64 0, .bool false]) ?_ rfl ⟨by rw [(unhide HV).1, (unhide HV).2.1, (unhide HV).2.2]; rfl, put4_kept (unhide HKW3) w.heap.size (Nat.le_refl _) _ _ _ _⟩
          exact results_cell_tmp2 rfl _ _ w.heap.size _ #[.int .u64 0, .int .u64 0, .int .u64 0, .int .i64 0] (0, 0) _ rfl (put4_heap (unhide HZ3) _ _ _ _) Tryz.underlying32 rfl Tryz.size_head _ _ rfl rfl
      · have hl30' : ((pay.length : Int) != 30) = true := by rw [bne_iff_ne]; omega
        have HV := hide (unhide HNO (by rw [unhide HHF, if_neg]; simp [payH, hl30]))
        rw [← unhide HW1] at d0 d1 d2 d3 f0 f1 f2 f3 g0 g1
        go_wp2
        rw [unhide HW1]
        refine bodyPost_ret (v := .tuple #[.agg #[.int .u64 0, .int .u64 0, .int .u64 0, .int .i64 0], .int .i64 0, .bool false]) ?_ rfl ⟨by rw [(unhide HV).1, (unhide HV).2.1, (unhide HV).2.2]; rfl, put4_kept (unhide HKW) w.heap.size (Nat.le_refl _) _ _ _ _⟩
        exact results_cell_tmp2 rfl _ _ w.heap.size _ #[.int .u64 0, .int .u64 0, .int .u64 0, .int .i64 0] (0, 0) _ rfl (put4_heap (unhide HZW) _ _ _ _) Tryz.underlying32 rfl Tryz.size_head _ _ rfl rfl
  · have hkd' : (((nextF p 0).kind : Int) != 1) = true := by rw [bne_iff_ne]; omega
    have HV := hide (unhide HNO (unhide HNK hkd))
    clear hcase
    rw [← unhide HW1] at d0 d1 d2 d3 f0 f1 f2 f3 g0 g1
    go_wp2
    rw [unhide HW1]
    refine bodyPost_ret (v := .tuple #[.agg #[.int .u64 0, .int .u64 0, .int .u64 0, .int .i64 0], .int .i64 0, .bool false]) ?_ rfl ⟨by rw [(unhide HV).1, (unhide HV).2.1, (unhide HV).2.2]; rfl, put4_kept (unhide HKW) w.heap.size (Nat.le_refl _) _ _ _ _⟩
    exact results_cell_tmp2 rfl _ _ w.heap.size _ #[.int .u64 0, .int .u64 0, .int .u64 0, .int .i64 0] (0, 0) _ rfl (put4_heap (unhide HZW) _ _ _ _) Tryz.underlying32 rfl Tryz.size_head _ _ rfl rfl
end Go.Proofs.YtckkalmhekfnhaaGreatDoor
