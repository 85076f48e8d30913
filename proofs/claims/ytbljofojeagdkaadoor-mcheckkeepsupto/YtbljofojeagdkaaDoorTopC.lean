import Derived.Test.YtbljofojeagdkaaDoorTopA
import Derived.Test.YtbljofojeagdkaaDoorTopB
import Derived.Test.YtbljofojeagdkaaDoorQKeep
import Derived.Deep.MidRow
import Derived.Test.YtbljofojeagdkaaDoorRowz
import Derived.Deep.RegionHeld3
import Derived.Laws.CopyRow
namespace Go.Proofs.YtbljofojeagdkaaDoor
open Go.RowKit Go.BigFrame
set_option linter.unusedVariables false
set_option linter.unusedSimpArgs false

/-- A list of ranges in memory of its own. -/
def SpAt (w0 w : World) (v : Value) (ss : List (Nat × Nat)) : Prop := ∃ base, w0.heap.size ≤ base ∧ w.ownsRow base 101 2 v ss.length (cellsS ss)
theorem SpAt.form {w0 w : World} {v : Value} {ss : List (Nat × Nat)} (h : SpAt w0 w v ss) : ∃ ao cap, v = .slice ao ss.length cap := by
  obtain ⟨base, _, h⟩ := h
  rcases h.2 with ⟨rfl, h0⟩ | ⟨g, cap, cur, rfl, _⟩
  · exact ⟨none, 0, by rw [h0]⟩
  · exact ⟨_, cap, rfl⟩
theorem SpAt.old {w0 w w' : World} {v : Value} {ss : List (Nat × Nat)} (h : SpAt w0 w v ss) (k : Kept [] w w') : SpAt w0 w' v ss := by
  obtain ⟨base, hb, h⟩ := h
  exact ⟨base, hb, k.owns h (by simp)⟩

set_option maxRecDepth 100000 in
set_option maxHeartbeats 1000000 in
theorem path_any (i n : Nat) (w : World) (hi : i < n) (hn : n < 18446744073709551616) :
    Calls Tryd.prog 36 #[.int .u64 i, .int .u64 n] w fun e w' => ∃ v, e = .returned v ∧ SpAt w w' v (pathF i 64 0 n) ∧ Kept [] w w' := by
  have k0 := ((Kept.refl [] w).alloc (.cells #[.int .u64 (i : Int)] 24)).alloc (.cells #[.slice none 0 0] 74)
  have G3 := alloc3_at w (.cells #[.int .u64 (i : Int)] 24) (.cells #[.slice none 0 0] 74) (.cells #[.nilFunc] 102)
  have cS := cell_of_row _ _ 0 _ _ _ G3
  have fS := frozen_of_row _ _ 0 _ _ G3
  rw [show (#[Value.nilFunc] : Array Value)[0]? = some .nilFunc from rfl] at cS
  have k2 := k0.alloc (.cells #[pathV w.heap.size (w.heap.size + 1 + 1) (w.heap.size + 1)] 102)
  have G4 := alloc3_at w (.cells #[.int .u64 (i : Int)] 24) (.cells #[.slice none 0 0] 74) (.cells #[pathV w.heap.size (w.heap.size + 1 + 1) (w.heap.size + 1)] 102)
  have GT := (((Kept.refl [] (w.alloc (.cells #[.int .u64 (i : Int)] 24))).alloc (.cells #[.slice none 0 0] 74)).alloc (.cells #[pathV w.heap.size (w.heap.size + 1 + 1) (w.heap.size + 1)] 102)).heap (heap_alloc_new w (.cells #[.int .u64 (i : Int)] 24)) (by simp)
  have GZ := ((Kept.refl [] ((w.alloc (.cells #[.int .u64 (i : Int)] 24)).alloc (.cells #[.slice none 0 0] 74))).alloc (.cells #[pathV w.heap.size (w.heap.size + 1 + 1) (w.heap.size + 1)] 102)).heap (alloc2_at w (.cells #[.int .u64 (i : Int)] 24) (.cells #[.slice none 0 0] 74)) (by simp)
  obtain ⟨X, hX⟩ : ∃ X, ((w.alloc (.cells #[.int .u64 (i : Int)] 24)).alloc (.cells #[.slice none 0 0] 74)).alloc (.cells #[pathV w.heap.size (w.heap.size + 1 + 1) (w.heap.size + 1)] 102) = X := ⟨_, rfl⟩
  have hsz : X.heap.size = w.heap.size + 3 := by rw [← hX]; simp
  rw [hX] at k2 G4 GT GZ
  have HL := (⟨Kept.refl _ _, GZ, World.ownsRow_nil _ _ _ _, by omega⟩ : Lst X (w.heap.size + 1) [] X (.slice none 0 0))
  have HP := (⟨G4, GT, ⟨by omega, by omega⟩, ⟨by omega, by omega⟩⟩ : PathW w.heap.size (w.heap.size + 1 + 1) i (w.heap.size + 1) X X)
  have HC := hide (pathC_any X w.heap.size (w.heap.size + 1 + 1) (w.heap.size + 1) i 64 0 n [] (.slice none 0 0) X (by omega) (by omega) hn (by simp) HL HP)
  have HX := hide (by rw [hsz]; omega : w.heap.size ≤ X.heap.size)
  have HK := hide k2
  rw [List.nil_append] at HC
  unfold pathV at hX
  have HXE := hide hX
  clear k0 k2 G3 G4 GT GZ HL HP hX hsz
  go_enter Tryd.func36, Tryd.ntmps36
  go_wp2_with (rw [run_store _ _ _ _ _ (by rfl), cS]; simp only [fS, Bool.false_eq_true, if_false, Result.andThen_ok])
  rw [unhide HXE]
  refine (unhide HC).mono ?_
  rintro e w5 ⟨rfl, u, l5, _⟩
  have cu := cell_of_row _ _ 0 _ _ _ l5.row
  simp at cu
  have HL5 := hide l5
  clear l5 cS fS HC
  go_wp2_with fail
  go_ret
  exact ⟨u, rfl, ⟨_, unhide HX, (unhide HL5).own⟩, (unhide HK).trans (unhide HL5).kept (by intro x hx; right; simp at hx; omega)⟩
end Go.Proofs.YtbljofojeagdkaaDoor
namespace Go.Proofs.YtbljofojeagdkaaDoor
open Go.RowKit Go.BigFrame
set_option linter.unusedVariables false
set_option linter.unusedSimpArgs false

/-- The ranges of a consistency proof of m and n. -/
def smL (m n : Nat) : List (Nat × Nat) := if m = 0 ∨ m = n then [] else seamF m 64 0 n true

set_option maxRecDepth 100000 in
set_option maxHeartbeats 1000000 in
theorem seam_any (m n : Nat) (w : World) (hm : m ≤ n) (hn : n < 18446744073709551616) :
    Calls Tryd.prog 38 #[.int .u64 m, .int .u64 n] w fun e w' => ∃ v, e = .returned v ∧ SpAt w w' v (smL m n) ∧ Kept [] w w' := by
  have c1 := cell_of_row _ _ 0 _ _ _ (heap_alloc_new w (.cells #[.int .u64 (m : Int)] 24))
  simp at c1
  by_cases h0 : m = 0
  · subst h0
    go_enter Tryd.func38, Tryd.ntmps38
    go_wp2_with fail
    go_ret
    exact ⟨_, rfl, ⟨_, Nat.le_refl _, by unfold smL; rw [if_pos (by simp)]; exact World.ownsRow_nil _ _ _ _⟩, (Kept.refl [] w).alloc _⟩
  · have h0' : ¬ (m : Int) = 0 := by omega
    by_cases h1 : m = n
    · subst h1
      go_enter Tryd.func38, Tryd.ntmps38
      go_wp2_with fail
      go_ret
      exact ⟨_, rfl, ⟨_, Nat.le_refl _, by unfold smL; rw [if_pos (by simp)]; exact World.ownsRow_nil _ _ _ _⟩, (Kept.refl [] w).alloc _⟩
    · have h1' : ¬ (m : Int) = (n : Int) := by omega
      have hb0 : ((m : Int) == 0) = false := by simp; omega
      have hb1 : ((m : Int) == (n : Int)) = false := by simp; omega
      have HSM := hide (by unfold smL; rw [if_neg (by omega)] : smL m n = seamF m 64 0 n true)
      have k0 := ((Kept.refl [] w).alloc (.cells #[.int .u64 (m : Int)] 24)).alloc (.cells #[.slice none 0 0] 74)
      have G3 := alloc3_at w (.cells #[.int .u64 (m : Int)] 24) (.cells #[.slice none 0 0] 74) (.cells #[.nilFunc] 107)
      have cS := cell_of_row _ _ 0 _ _ _ G3
      have fS := frozen_of_row _ _ 0 _ _ G3
      rw [show (#[Value.nilFunc] : Array Value)[0]? = some .nilFunc from rfl] at cS
      have k2 := k0.alloc (.cells #[seamV w.heap.size (w.heap.size + 1) (w.heap.size + 1 + 1)] 107)
      have G4 := alloc3_at w (.cells #[.int .u64 (m : Int)] 24) (.cells #[.slice none 0 0] 74) (.cells #[seamV w.heap.size (w.heap.size + 1) (w.heap.size + 1 + 1)] 107)
      have GT := (((Kept.refl [] (w.alloc (.cells #[.int .u64 (m : Int)] 24))).alloc (.cells #[.slice none 0 0] 74)).alloc (.cells #[seamV w.heap.size (w.heap.size + 1) (w.heap.size + 1 + 1)] 107)).heap (heap_alloc_new w (.cells #[.int .u64 (m : Int)] 24)) (by simp)
      have GZ := ((Kept.refl [] ((w.alloc (.cells #[.int .u64 (m : Int)] 24)).alloc (.cells #[.slice none 0 0] 74))).alloc (.cells #[seamV w.heap.size (w.heap.size + 1) (w.heap.size + 1 + 1)] 107)).heap (alloc2_at w (.cells #[.int .u64 (m : Int)] 24) (.cells #[.slice none 0 0] 74)) (by simp)
      obtain ⟨X, hX⟩ : ∃ X, ((w.alloc (.cells #[.int .u64 (m : Int)] 24)).alloc (.cells #[.slice none 0 0] 74)).alloc (.cells #[seamV w.heap.size (w.heap.size + 1) (w.heap.size + 1 + 1)] 107) = X := ⟨_, rfl⟩
      have hsz : X.heap.size = w.heap.size + 3 := by rw [← hX]; simp
      rw [hX] at k2 G4 GT GZ
      have HL := (⟨Kept.refl _ _, GZ, World.ownsRow_nil _ _ _ _, by omega⟩ : Lst X (w.heap.size + 1) [] X (.slice none 0 0))
      have HP := (⟨G4, GT, ⟨by omega, by omega⟩, ⟨by omega, by omega⟩⟩ : SeamW w.heap.size (w.heap.size + 1 + 1) m (w.heap.size + 1) X X)
      have HC := hide (seamC_any X w.heap.size (w.heap.size + 1 + 1) (w.heap.size + 1) m 64 0 n true [] (.slice none 0 0) X (by omega) (by omega) (by omega) hn (by simp) HL HP)
      have HX := hide (by rw [hsz]; omega : w.heap.size ≤ X.heap.size)
      have HK := hide k2
      rw [List.nil_append] at HC
      unfold seamV at hX
      have HXE := hide hX
      clear k0 k2 G3 G4 GT GZ HL HP hX hsz
      go_enter Tryd.func38, Tryd.ntmps38
      go_wp2_with (first | (simp only [hb0, hb1, Bool.or_self]) | (rw [run_store _ _ _ _ _ (by rfl), cS]; simp only [fS, Bool.false_eq_true, if_false, Result.andThen_ok]))
      rw [unhide HXE]
      refine (unhide HC).mono ?_
      rintro e w5 ⟨rfl, u, l5, _⟩
      have cu := cell_of_row _ _ 0 _ _ _ l5.row
      simp at cu
      have HL5 := hide l5
      clear l5 cS fS HC c1
      go_wp2_with fail
      go_ret
      exact ⟨u, rfl, ⟨_, unhide HX, by rw [unhide HSM]; exact (unhide HL5).own⟩, (unhide HK).trans (unhide HL5).kept (by intro x hx; right; simp at hx; omega)⟩

/-- What Counts answers. -/
def cntE (i m n : Nat) : Int := if n ≤ i ∨ n < m then 4 else 0
def cntA (i m n : Nat) : Int := if n ≤ i ∨ n < m then 0 else ((pathF i 64 0 n).length : Int)
def cntB (i m n : Nat) : Int := if n ≤ i ∨ n < m then 0 else ((smL m n).length : Int)

end Go.Proofs.YtbljofojeagdkaaDoor
/-
  A row in the midst of a block, read within a quiet walk.
-/
namespace Go.Proofs.YtbljofojeagdkaaDoor
open Go Go.RowKit Go.BigFrame

theorem wpQuiet_mid {P : Program} {ops : Array Oper} {C : World → Prop} {Q : Act → Prop} {a : Act} {o : Oper} {rest : List Oper} (hw : Region.wanted o (yielded ops a.tmps) = true) (ty : TypeId) (x : Operand) (ho : o.op = .load ty x)
    (b off : Nat) (hx : a.eval x = .pointer (some ⟨b, off, none⟩)) (cs : List Value) (d : TypeDesc) (hg : ∀ w, C w → w.rangeAt b off cs)
    (hu : P.underlying ty = some d) (hd : d.isRow = true) (hi : (P.info? ty).map (·.size) = some cs.length)
    (h : wpQuiet P ops C Q rest (a.put o.dst (.agg cs.toArray))) : wpQuiet P ops C Q (o :: rest) a := by
  refine wpQuiet_want hw fun K hK => ⟨.agg cs.toArray, fun w hw => ?_, hK _ h⟩
  unfold Oper.quietAt execOp
  simp only [ho]
  have := run_loadVar_mid (P := P) w b off ty cs d (hg w hw) hu hd hi
  simp only [hx, Instr.loadAt, Instr.sureAddr, Sem.run_bind, Sem.run_pure, Result.andThen_ok, this, Oper.quietUpon, and_self]
end Go.Proofs.YtbljofojeagdkaaDoor
namespace Go.Proofs.YtbljofojeagdkaaDoor
open Go.RowKit Go.BigFrame
set_option linter.unusedVariables false
set_option linter.unusedSimpArgs false

theorem RdD.upto {w : World} {ao : Option Addr} {len cap : Nat} {ds : List (List Nat)} (h : RdD w (.slice ao len cap) ds) (k : Nat) (hk : k ≤ len) : RdD w (.slice ao k cap) (ds.take k) := by
  obtain ⟨ao', len', cap', e, h1, h2, h3, h4, h5⟩ := h
  cases e
  refine ⟨ao, k, cap, rfl, by rw [List.length_take]; omega, by omega, h3, fun d hd => h4 d (List.mem_of_mem_take hd), fun hp => ?_⟩
  obtain ⟨b, off, rfl, hc⟩ := h5 (by omega)
  refine ⟨b, off, rfl, fun i hi => ?_⟩
  rw [List.getD_eq_getElem?_getD, List.getElem?_take_of_lt hi, ← List.getD_eq_getElem?_getD]
  exact hc i (by omega)
theorem RdD.dg {w : World} {v : Value} {ds : List (List Nat)} (h : RdD w v ds) {d : List Nat} (hd : d ∈ ds) : Dg d := by
  obtain ⟨ao', len', cap', e, h1, h2, h3, h4, h5⟩ := h
  exact h4 d hd
/-- What stands ahead of the last, and that one. -/
theorem last_cut {ds : List (List Nat)} {x : List Nat} {r : List (List Nat)} (h : ds.reverse = x :: r) : ds = r.reverse ++ [x] ∧ ds.length = r.length + 1 := by
  have h2 := congrArg List.reverse h
  simp only [List.reverse_reverse, List.reverse_cons] at h2
  refine ⟨h2, ?_⟩
  rw [h2]; simp

theorem results_tmp_cell {P : Program} {fn : Func} {p q : Tmp} {ty : TypeId} (h : fn.results = #[.tmp q, .cell p ty]) (tmps : Array Value) (w : World) (g : Nat) (t : TypeId) (cs : Array Value) (fr : Nat × Nat) (d : TypeDesc)
    (hp : tmps.getD p undef = .pointer (some ⟨g, 0, none⟩)) (hg : w.heap[g]? = some (.cells cs t fr))
    (hu : P.underlying ty = some d) (hd : (match d with | .struct _ | .array _ _ => true | _ => false) = true) (hi : (P.info? ty).map (·.size) = some cs.size) (v : Value) (hq : tmps.getD q undef = v) :
    (results fn tmps).run P w = .ok (.tuple #[v, .agg cs]) w := by
  have hp' : tmps[p]?.getD undef = .pointer (some ⟨g, 0, none⟩) := by simpa using hp
  have hq' : tmps[q]?.getD undef = v := by simpa using hq
  simp [results, h, hp', hq', asAddr, run_loadVar_row w g t ty cs fr d hg hu hd hi]
theorem formedE_two {z : Int} {l m : List Nat} (hw : widthB z = true) (hl : formB z l = true) (hm : formB z m = true) : formedE z [l, m] = 0 := by simp [formedE, hw, hl, hm]

set_option maxRecDepth 100000 in
set_option maxHeartbeats 1000000 in
theorem parted_any (v : Value) (ds r : List (List Nat)) (x : List Nat) (w : World) (hv : RdD w v ds) (hr : ds.reverse = x :: r) :
    Calls Tryd.prog 43 #[v] w fun e w' => ∃ u, e = .returned (.tuple #[u, .agg (brow x)]) ∧ RdD w' u r.reverse ∧ Kept [] w w' := by
  obtain ⟨e1, e2⟩ := last_cut hr
  have HV := hide hv
  obtain ⟨ao, len, cap, rfl, h1, h2, h3, h4, h5⟩ := hv
  have hlen : len = r.length + 1 := by omega
  obtain ⟨b, off, rfl, hc⟩ := h5 (by omega)
  have HX := hide (unhide HV |>.dg (show x ∈ ds by rw [e1]; simp))
  have HRG := hide (by have := hc r.length (by omega); rwa [e1, List.getD_eq_getElem?_getD, List.getElem?_append_right (by simp), List.length_reverse, Nat.sub_self] at this : w.rangeAt b (off + r.length * 32) (x.map u8))
  have HU := hide (by have := (unhide HV).upto r.length (by omega); rwa [e1, List.take_append_of_le_length (by simp), List.take_of_length_le (by simp)] at this : RdD w (.slice (some ⟨b, off, none⟩) r.length cap) r.reverse)
  have hxl := (unhide HX).1
  clear hc h4 e1 hr h1 HV
  subst hlen
  go_enter Tryd.func43, Tryd.ntmps43
  go_wp2_with fail
  rw [zb32]
  have HGZ := hide (heap_alloc_new w (.cells (zb 32) 23))
  have HK0 := hide ((Kept.refl [] w).alloc (.cells (zb 32) 23))
  have HR2 := hide (range_kept (unhide HRG) (unhide HK0) (by simp))
  obtain ⟨W, hW⟩ : ∃ W, w.alloc (.cells (zb 32) 23) = W := ⟨_, rfl⟩
  rw [hW] at HGZ HK0 HR2 ⊢
  have HL := hide (by rw [List.length_map, hxl]; exact Tryd.size_dig : (Tryd.prog.info? 23).map (·.size) = some (x.map u8).length)
  have hcI : ((r.length : Int)) ≤ cap := by omega
  refine wp_quiet_tail 8 (by kernel_rfl) (by kernel_rfl) ?_
  simp only [List.take_succ_cons, List.take_zero, List.drop_succ_cons, List.drop_zero]
  repeat (go_big_quiet_step (fail))
  refine wpQuiet_mid rfl 23 _ rfl b (off + r.length * 32) rfl (x.map u8) _ (fun w' hw' => by obtain ⟨n, rfl⟩ := hw'; exact unhide HR2) Tryd.underlying23 rfl (unhide HL) ?_
  simp only [Act.put, List.setIfInBounds_toArray, List.set_cons_succ, List.set_cons_zero]
  repeat (go_big_quiet_step (fail))
  refine wpQuiet_nil ?_
  rintro _ ⟨n1, rfl⟩
  go_wp2_with (first
    | (refine wpList_store_row rfl 23 _ _ rfl w.heap.size (brow x) rfl rfl _ (zb 32) (unhide HGZ) (by rw [brow_size, hxl]; exact Tryd.size_dig) (by rw [zb_size, brow_size, hxl]) (brow_one _) ?_))
  have kk := ((unhide HK0).drewN n1).setRow (L := []) (g := w.heap.size) (Or.inr (Nat.le_refl _)) (brow x)
  refine bodyPost_ret (v := .tuple #[.slice (some ⟨b, off, none⟩) r.length cap, .agg (brow x)]) ?_ rfl ⟨_, rfl, (unhide HU).old kk, kk⟩
  exact results_tmp_cell (P := Tryd.prog) (by rfl) _ ((W.drewN n1).setRow w.heap.size (brow x)) w.heap.size _ (brow x) (0, 0) _ (by rfl) (setRow_heap (W.drewN n1) _ _ _ _ _ (unhide HGZ)) Tryd.underlying23 rfl (by rw [brow_size, hxl]; exact Tryd.size_dig) _ (by rfl)

set_option maxRecDepth 100000 in
set_option maxHeartbeats 1000000 in
theorem ended_any (v : Value) (ds r : List (List Nat)) (x : List Nat) (w : World) (hv : RdD w v ds) (hr : ds.reverse = x :: r) :
    Calls Tryd.prog 48 #[v] w fun e w' => ∃ u, e = .returned (.tuple #[u, .agg (brow x)]) ∧ RdD w' u r.reverse ∧ Kept [] w w' := by
  obtain ⟨e1, e2⟩ := last_cut hr
  have HV := hide hv
  obtain ⟨ao, len, cap, rfl, h1, h2, h3, h4, h5⟩ := hv
  have hlen : len = r.length + 1 := by omega
  obtain ⟨b, off, rfl, hc⟩ := h5 (by omega)
  have HX := hide (unhide HV |>.dg (show x ∈ ds by rw [e1]; simp))
  have HRG := hide (by have := hc r.length (by omega); rwa [e1, List.getD_eq_getElem?_getD, List.getElem?_append_right (by simp), List.length_reverse, Nat.sub_self] at this : w.rangeAt b (off + r.length * 32) (x.map u8))
  have HU := hide (by have := (unhide HV).upto r.length (by omega); rwa [e1, List.take_append_of_le_length (by simp), List.take_of_length_le (by simp)] at this : RdD w (.slice (some ⟨b, off, none⟩) r.length cap) r.reverse)
  have hxl := (unhide HX).1
  clear hc h4 e1 hr h1 HV
  subst hlen
  go_enter Tryd.func48, Tryd.ntmps48
  go_wp2_with fail
  rw [zb32]
  have HGZ := hide (heap_alloc_new w (.cells (zb 32) 23))
  have HK0 := hide ((Kept.refl [] w).alloc (.cells (zb 32) 23))
  have HR2 := hide (range_kept (unhide HRG) (unhide HK0) (by simp))
  obtain ⟨W, hW⟩ : ∃ W, w.alloc (.cells (zb 32) 23) = W := ⟨_, rfl⟩
  rw [hW] at HGZ HK0 HR2 ⊢
  have HL := hide (by rw [List.length_map, hxl]; exact Tryd.size_dig : (Tryd.prog.info? 23).map (·.size) = some (x.map u8).length)
  have hcI : ((r.length : Int)) ≤ cap := by omega
  refine wp_quiet_tail 8 (by kernel_rfl) (by kernel_rfl) ?_
  simp only [List.take_succ_cons, List.take_zero, List.drop_succ_cons, List.drop_zero]
  repeat (go_big_quiet_step (fail))
  refine wpQuiet_mid rfl 23 _ rfl b (off + r.length * 32) rfl (x.map u8) _ (fun w' hw' => by obtain ⟨n, rfl⟩ := hw'; exact unhide HR2) Tryd.underlying23 rfl (unhide HL) ?_
  simp only [Act.put, List.setIfInBounds_toArray, List.set_cons_succ, List.set_cons_zero]
  repeat (go_big_quiet_step (fail))
  refine wpQuiet_nil ?_
  rintro _ ⟨n1, rfl⟩
  go_wp2_with (first
    | (refine wpList_store_row rfl 23 _ _ rfl w.heap.size (brow x) rfl rfl _ (zb 32) (unhide HGZ) (by rw [brow_size, hxl]; exact Tryd.size_dig) (by rw [zb_size, brow_size, hxl]) (brow_one _) ?_))
  have kk := ((unhide HK0).drewN n1).setRow (L := []) (g := w.heap.size) (Or.inr (Nat.le_refl _)) (brow x)
  refine bodyPost_ret (v := .tuple #[.slice (some ⟨b, off, none⟩) r.length cap, .agg (brow x)]) ?_ rfl ⟨_, rfl, (unhide HU).old kk, kk⟩
  exact results_tmp_cell (P := Tryd.prog) (by rfl) _ ((W.drewN n1).setRow w.heap.size (brow x)) w.heap.size _ (brow x) (0, 0) _ (by rfl) (setRow_heap (W.drewN n1) _ _ _ _ _ (unhide HGZ)) Tryd.underlying23 rfl (by rw [brow_size, hxl]; exact Tryd.size_dig) _ (by rfl)

set_option maxRecDepth 100000 in
set_option maxHeartbeats 1000000 in
theorem over_bad (f : Nat) (z : Int) (l m : List Nat) (w : World) (hf : f ≠ 0) :
    Calls Tryd.prog 45 #[.int .i64 f, .int .i64 z, .agg (brow l), .agg (brow m)] w fun e w' => e = .returned (.tuple #[.agg (brow zD), .int .i64 f]) ∧ Kept [] w w' := by
  have hb : ((f : Int) != 0) = true := by simp; omega
  have HF := hide hf
  clear hf
  go_enter Tryd.func45, Tryd.ntmps45
  have HGZ := hide (alloc3_at w (.cells (brow l) 23) (.cells (brow m) 23) (.cells (zb 32) 23))
  have HK0 := hide ((((Kept.refl [] w).alloc (.cells (brow l) 23)).alloc (.cells (brow m) 23)).alloc (.cells (zb 32) 23))
  go_wp2_with (rw [zb32]; refine wpList_store_row rfl 23 _ _ rfl (w.heap.size + 1 + 1) (zb 32) rfl rfl _ (zb 32) (unhide HGZ) (by rw [zb_size]; exact Tryd.size_dig) rfl (brow_one _) ?_)
  refine bodyPost_ret (v := .tuple #[.agg (zb 32), .int .i64 f]) ?_ rfl ⟨rfl, (unhide HK0).setRow (Or.inr (by omega)) _⟩
  exact results_cell_tmp rfl _ _ (w.heap.size + 1 + 1) _ (zb 32) (0, 0) _ rfl (setRow_heap _ _ _ _ _ _ (unhide HGZ)) Tryd.underlying23 rfl (by rw [zb_size]; exact Tryd.size_dig) _ rfl

set_option maxRecDepth 100000 in
set_option maxHeartbeats 1000000 in
theorem over_ok (z : Int) (l m : List Nat) (w : World) (hz : -9223372036854775808 ≤ z ∧ z ≤ 9223372036854775807) (hw : widthB z = true) (hl : Dg l) (hm : Dg m) (hlf : formB z l = true) (hmf : formB z m = true) (hT : Tabs w) :
    Calls Tryd.prog 45 #[.int .i64 0, .int .i64 z, .agg (brow l), .agg (brow m)] w fun e w' => e = .returned (.tuple #[.agg (brow (nodS z l m)), .int .i64 0]) ∧ Kept [] w w' := by
  have HE := hide (by rw [formedE_two hw hlf hmf]; unfold nodS sunD; rw [if_pos rfl] : sunD (formedE z [l, m]) z (nodeB z l m) = nodS z l m)
  have HE2 := hide (by rw [formedE_two hw hlf hmf]; simp [sunE, sumE, hw] : sunE (formedE z [l, m]) z = 0)
  obtain ⟨D, hD⟩ : ∃ D, nodS z l m = D := ⟨_, rfl⟩
  have hcl : D.length = 32 := by rw [← hD]; exact (nodS_dg z l m).1
  rw [hD] at HE ⊢
  clear hD
  have HL := hide hl
  have HM := hide hm
  have HT := hide hT
  clear hl hm hT hlf hmf hw
  go_enter Tryd.func45, Tryd.ntmps45
  have HK0 := hide ((((Kept.refl [] w).alloc (.cells (brow l) 23)).alloc (.cells (brow m) 23)).alloc (.cells (zb 32) 23))
  have HGZ := hide (alloc3_at w (.cells (brow l) 23) (.cells (brow m) 23) (.cells (zb 32) 23))
  have HGM := hide (((Kept.refl [] ((w.alloc (.cells (brow l) 23)).alloc (.cells (brow m) 23))).alloc (.cells (zb 32) 23)).heap (alloc_at w (.cells (brow l) 23) (.cells (brow m) 23)) (by simp))
  have HGL := hide ((((Kept.refl [] (w.alloc (.cells (brow l) 23))).alloc (.cells (brow m) 23)).alloc (.cells (zb 32) 23)).heap (heap_alloc_new w (.cells (brow l) 23)) (by simp))
  have HSL := hide (by rw [List.length_map, (unhide HL).1]; exact Tryd.size_dig : (Tryd.prog.info? 23).map (·.size) = some (l.map u8).length)
  have HSM := hide (by rw [List.length_map, (unhide HM).1]; exact Tryd.size_dig : (Tryd.prog.info? 23).map (·.size) = some (m.map u8).length)
  go_wp2_with (first
    | (refine wpList_load_mid rfl 23 _ rfl w.heap.size 0 rfl (l.map u8) _ (range_row (unhide HGL)) Tryd.underlying23 rfl (unhide HSL) ?_)
    | (refine wpList_load_mid rfl 23 _ rfl (w.heap.size + 1) 0 rfl (m.map u8) _ (range_row (unhide HGM)) Tryd.underlying23 rfl (unhide HSM) ?_))
  refine Calls.mono (node_all z l m _ hz (unhide HL).1 (unhide HM).1 (unhide HL).2 (unhide HM).2 ((unhide HT).k (unhide HK0))) ?_
  rintro e w1 ⟨rfl, k1⟩
  rw [unhide HE, unhide HE2]
  have HZ2 := hide (k1.heap (unhide HGZ) (by simp))
  have HK2 := hide ((unhide HK0).trans k1 (by simp))
  clear k1 HGL HGM
  go_wp2_with (refine wpList_store_row rfl 23 _ _ rfl (w.heap.size + 1 + 1) (brow D) rfl rfl _ (zb 32) (unhide HZ2) (by rw [brow_size, hcl]; exact Tryd.size_dig) (by rw [zb_size, brow_size, hcl]) (brow_one _) ?_)
  refine bodyPost_ret (v := .tuple #[.agg (brow D), .int .i64 0]) ?_ rfl ⟨rfl, (unhide HK2).setRow (Or.inr (by omega)) _⟩
  exact results_cell_tmp rfl _ _ (w.heap.size + 1 + 1) _ (brow D) (0, 0) _ rfl (setRow_heap _ _ _ _ _ _ (unhide HZ2)) Tryd.underlying23 rfl (by rw [brow_size, hcl]; exact Tryd.size_dig) _ rfl

set_option maxRecDepth 100000 in
set_option maxHeartbeats 1000000 in
theorem refNode_any (k : Nat) (l m : List Nat) (w : World) (hk : 1 ≤ k ∧ k ≤ 32) (hl : Dg l) (hm : Dg m) :
    Calls Tryd.prog 50 #[.int .i64 k, .agg (brow l), .agg (brow m)] w fun e w' => e = .returned (.agg (brow (nodS k l m))) ∧ Kept [] w w' := by
  have HE := hide (by unfold nodS sumD; rw [if_pos (by simp [widthB]; omega), Int.toNat_natCast] : nodS (k : Int) l m = cutL k (hash (nodeB k l m)))
  obtain ⟨D, hD⟩ : ∃ D, nodS (k : Int) l m = D := ⟨_, rfl⟩
  have hcl : D.length = 32 := by rw [← hD]; exact (nodS_dg _ l m).1
  rw [hD] at HE ⊢
  clear hD
  have HL := hide hl
  have HM := hide hm
  clear hl hm
  go_enter Tryd.func50, Tryd.ntmps50
  have HK0 := hide ((((Kept.refl [] w).alloc (.cells (brow l) 23)).alloc (.cells (brow m) 23)).alloc (.cells (zb 32) 23))
  have HGZ := hide (alloc3_at w (.cells (brow l) 23) (.cells (brow m) 23) (.cells (zb 32) 23))
  have HGM := hide (((Kept.refl [] ((w.alloc (.cells (brow l) 23)).alloc (.cells (brow m) 23))).alloc (.cells (zb 32) 23)).heap (alloc_at w (.cells (brow l) 23) (.cells (brow m) 23)) (by simp))
  have HGL := hide ((((Kept.refl [] (w.alloc (.cells (brow l) 23))).alloc (.cells (brow m) 23)).alloc (.cells (zb 32) 23)).heap (heap_alloc_new w (.cells (brow l) 23)) (by simp))
  have HSL := hide (by rw [List.length_map, (unhide HL).1]; exact Tryd.size_dig : (Tryd.prog.info? 23).map (·.size) = some (l.map u8).length)
  have HSM := hide (by rw [List.length_map, (unhide HM).1]; exact Tryd.size_dig : (Tryd.prog.info? 23).map (·.size) = some (m.map u8).length)
  go_wp2_with (first
    | (refine wpList_load_mid rfl 23 _ rfl w.heap.size 0 rfl (l.map u8) _ (range_row (unhide HGL)) Tryd.underlying23 rfl (unhide HSL) ?_)
    | (refine wpList_load_mid rfl 23 _ rfl (w.heap.size + 1) 0 rfl (m.map u8) _ (range_row (unhide HGM)) Tryd.underlying23 rfl (unhide HSM) ?_))
  rw [zb32]
  refine Calls.mono (refNodeInput_any k l m _ hk (unhide HL).1 (unhide HM).1 (unhide HL).2 (unhide HM).2) ?_
  rintro e w1 ⟨v1, rfl, r1, k1⟩
  have HR1 := hide r1
  obtain ⟨a1, m1, c1, rfl, _⟩ := id r1
  have HZ1 := hide (k1.heap (unhide HGZ) (by simp))
  have HK1 := hide ((unhide HK0).trans k1 (by simp))
  clear k1 r1 HGL HGM
  go_wp2_with fail
  refine Calls.mono (refCut_any k _ (nodeB k l m) _ (unhide HR1) hk.2) ?_
  rintro e w2 ⟨rfl, k2⟩
  rw [← unhide HE]
  have HZ2 := hide (k2.heap (unhide HZ1) (by simp))
  have HK2 := hide ((unhide HK1).trans k2 (by simp))
  clear k2
  go_wp2_with (refine wpList_store_row rfl 23 _ _ rfl (w.heap.size + 1 + 1) (brow D) rfl rfl _ (zb 32) (unhide HZ2) (by rw [brow_size, hcl]; exact Tryd.size_dig) (by rw [zb_size, brow_size, hcl]) (brow_one _) ?_)
  refine bodyPost_ret (v := .agg (brow D)) ?_ rfl ⟨rfl, (unhide HK2).setRow (Or.inr (by omega)) _⟩
  exact results_cell_row rfl _ _ (w.heap.size + 1 + 1) _ (brow D) (0, 0) _ rfl (setRow_heap _ _ _ _ _ _ (unhide HZ2)) Tryd.underlying23 rfl (by rw [brow_size, hcl]; exact Tryd.size_dig)

theorem spl_of {n k : Nat} (h2 : 2 ≤ n) (j : Nat) (hk : k = 2 ^ j) (hlt : k < n) (hge : n ≤ 2 * k) : spl n = k := by
  subst hk
  unfold spl
  have : (n - 1).log2 = j := by
    have a1 : 2 ^ j ≤ n - 1 := by omega
    have a2 : n - 1 < 2 ^ (j + 1) := by rw [Nat.pow_succ]; omega
    exact (Nat.log2_eq_iff (by omega)).2 ⟨a1, a2⟩
  rw [this]

set_option maxRecDepth 100000 in
set_option maxHeartbeats 1000000 in
theorem refSplit_any (n : Nat) (w : World) (h2 : 2 ≤ n) (hn : n < 18446744073709551616) :
    Calls Tryd.prog 49 #[.int .u64 n] w fun e w' => e = .returned (.int .u64 (spl n)) ∧ Kept [] w w' := by
  obtain ⟨S, hS⟩ : ∃ S, spl n = S := ⟨_, rfl⟩
  rw [hS]
  have HS := hide hS
  clear hS
  go_enter Tryd.func49, Tryd.ntmps49
  go_wp2_with fail
  go_loopw [3] (fun t3 wr => ∃ (k : Nat), t3 = .int .u64 k ∧ Hid (∃ j, k = 2 ^ j) ∧ 1 ≤ k ∧ k < n ∧ Hid (Kept [] w wr)) (fun t _ => n - (intOf t).toNat)
  case atStart => exact ⟨1, rfl, hide ⟨0, rfl⟩, by omega, by omega, hide (Kept.refl _ _)⟩
  case round =>
    obtain ⟨k, rfl, HJ, hk1, hk2, HK⟩ := hrel
    have hn1 : (1 : Int) ≤ n := by omega
    by_cases hlt : k ≤ (n - 1) / 2
    · have hlt' : (k : Int) ≤ ((n : Int) - 1) / 2 := by omega
      have hq : (k : Int) * 2 ≤ 18446744073709551615 := by omega
      go_wp2
      refine ⟨⟨k * 2, by go_num, hide (by obtain ⟨j, rfl⟩ := unhide HJ; exact ⟨j + 1, by rw [Nat.pow_succ]⟩), by omega, by omega, HK⟩, ?_⟩
      simp [intOf]; omega
    · have hlt' : ¬ (k : Int) ≤ ((n : Int) - 1) / 2 := by omega
      have HE := hide (by obtain ⟨j, hj⟩ := unhide HJ; exact spl_of h2 j hj hk2 (by omega) : spl n = k)
      go_wp2
      go_ret
      exact ⟨by rw [← unhide HS, unhide HE]; rfl, unhide HK⟩
end Go.Proofs.YtbljofojeagdkaaDoor
namespace Go.Proofs.YtbljofojeagdkaaDoor
open Go.RowKit Go.BigFrame
set_option linter.unusedVariables false
set_option linter.unusedSimpArgs false

theorem RdD.nlP {w : World} {ao : Option Addr} {len cap : Nat} {ds : List (List Nat)} (h : RdD w (.slice ao len cap) ds) : ds.length = len := by
  obtain ⟨_, _, _, e, h1, _⟩ := h
  cases e; exact h1
theorem RdD.oneP {w : World} {g : Nat} {l : List Nat} {t : TypeId} {fr : Nat × Nat} (h : w.heap[g]? = some (.cells (brow l) t fr)) (hl : Dg l) : RdD w (.slice (some ⟨g, 0, none⟩) 1 1) [l] := by
  refine ⟨_, 1, 1, rfl, rfl, Nat.le_refl _, by omega, fun d hd => by simp at hd; subst hd; exact hl, fun _ => ⟨g, 0, rfl, fun i hi => ?_⟩⟩
  obtain rfl : i = 0 := by omega
  exact range_row h
/-- The cells of digests in a row. -/
def flatD (ds : List (List Nat)) : List Value := (ds.map fun d => d.map u8).flatten
theorem flatD_len {ds : List (List Nat)} (h : ∀ d ∈ ds, d.length = 32) : (flatD ds).length = ds.length * 32 := by
  induction ds with
  | nil => rfl
  | cons d r ih =>
    have := ih (fun x hx => h x (by simp [hx]))
    simp only [flatD, List.map_cons, List.flatten_cons, List.length_append, List.length_map, List.length_cons] at this ⊢
    rw [this, h d (by simp)]; omega
theorem flatD_app (a b : List (List Nat)) : flatD (a ++ b) = flatD a ++ flatD b := by simp [flatD]
theorem flatD_one (ds : List (List Nat)) : ∀ v ∈ flatD ds, v.oneCell' = true := by
  intro v hv
  simp only [flatD, List.mem_flatten, List.mem_map] at hv
  obtain ⟨l, ⟨d, _, rfl⟩, h⟩ := hv
  exact u8_oneCell d v h
theorem flatD_at {ds : List (List Nat)} (h : ∀ d ∈ ds, d.length = 32) : ∀ (i : Nat), i < ds.length → ∀ j, j < 32 → (flatD ds)[i * 32 + j]? = ((ds.getD i []).map u8)[j]? := by
  induction ds with
  | nil => intro i hi; simp at hi
  | cons d r ih =>
    intro i hi j hj
    have hd := h d (by simp)
    have e : flatD (d :: r) = d.map u8 ++ flatD r := by simp [flatD]
    rw [e]
    cases i with
    | zero =>
      rw [Nat.zero_mul, Nat.zero_add, List.getElem?_append_left (by simp [hd]; exact hj)]; rfl
    | succ i =>
      rw [List.getElem?_append_right (by simp [hd]; omega), List.length_map, hd, show (i + 1) * 32 + j - 32 = i * 32 + j by omega, ih (fun x hx => h x (by simp [hx])) i (by simpa using hi) j hj]
      rfl
theorem RdD.news {w : World} {b off n c : Nat} {ds : List (List Nat)} (h : RdD w (.slice (some ⟨b, off, none⟩) n c) ds) : ∀ j u, (flatD ds)[j]? = some u → w.cell? ((⟨b, off, none⟩ : Addr).add j) = some u := by
  obtain ⟨ao', len', cap', e, h1, h2, h3, h4, h5⟩ := h
  cases e
  intro j u hu
  have hl := flatD_len (fun d hd => (h4 d hd).1)
  have hj := (List.getElem?_eq_some_iff.1 hu).1
  have hp : 0 < n := by
    rcases Nat.eq_zero_or_pos n with h0 | h0
    · rw [hl, h1, h0] at hj; omega
    · exact h0
  obtain ⟨b', off', e, hc⟩ := h5 hp
  cases e
  have hi : j / 32 < ds.length := by omega
  have hq := flatD_at (fun d hd => (h4 d hd).1) (j / 32) hi (j % 32) (Nat.mod_lt _ (by decide))
  rw [show j / 32 * 32 + j % 32 = j by omega, hu] at hq
  have := hc (j / 32) (by omega) (j % 32) u hq.symm
  rw [Addr.add_mid]
  rw [show off + j / 32 * 32 + j % 32 = off + j by omega] at this
  exact this
theorem rdd_owns {w : World} {base : Nat} {v : Value} {ds : List (List Nat)} (h : w.ownsRow base 23 32 v ds.length (flatD ds)) (hd : ∀ d ∈ ds, Dg d) : RdD w v ds := by
  rcases h.2 with ⟨rfl, h0⟩ | ⟨g, cap, cur, rfl, _, hg, h1, h2, h3, h4⟩
  · exact ⟨none, 0, 0, rfl, h0, Nat.le_refl _, by omega, hd, fun h => by omega⟩
  · refine ⟨_, ds.length, cap, rfl, rfl, h1, by unfold maxLen at h2; omega, hd, fun hp => ⟨g, 0, rfl, fun i hi j v hv => ?_⟩⟩
    have hj : j < 32 := by
      have := (List.getElem?_eq_some_iff.1 hv).1
      rw [List.length_map, List.getD_eq_getElem?_getD, List.getElem?_eq_getElem hi] at this
      rw [← (hd ds[i] (List.getElem_mem hi)).1]; exact this
    have hq := flatD_at (fun d hd' => (hd d hd').1) i hi j hj
    rw [Nat.zero_add, cell_of_row _ _ _ _ _ _ hg, ← hv, ← hq, ← h4, List.getElem?_take_of_lt (by omega), Array.getElem?_toList]

theorem Tryd.infoD : (Tryd.prog.info? 23).map (fun i => (i.zero, i.size, i.bytes)) = some (some (.agg (zb 32)), 32, 32) := by kernel_rfl

theorem owns_form {w : World} {base : Nat} {e : TypeId} {size n : Nat} {v : Value} {xs : List Value} (h : w.ownsRow base e size v n xs) : ∃ ao cap, v = .slice ao n cap := by
  rcases h.2 with ⟨rfl, rfl⟩ | ⟨g, cap, cur, rfl, _⟩
  · exact ⟨none, 0, rfl⟩
  · exact ⟨_, cap, rfl⟩
theorem append_none {P : Program} {w : World} (base : Nat) (t ty e : TypeId) (i : TypeInfo) (size c : Nat) (ht : P.underlying t = some (.slice e)) (hi : P.info? e = some i)
    (v : Value) (n : Nat) (xs : List Value) (hown : w.ownsRow base e size v n xs) :
    (Builtin.append_ #[t, t] ty #[v, .slice none 0 c]).run P w = .ok v w := by
  rcases hown.2 with ⟨rfl, rfl⟩ | ⟨g, cap, cur, rfl, _, _, hnc, _⟩
  · simp [Builtin.append_, run_underlying ht, sizeOf, typeInfo, hi, Builtin.lenOf, Builtin.firstCells]
  · simp [Builtin.append_, run_underlying ht, sizeOf, typeInfo, hi, Builtin.lenOf, Builtin.firstCells, hnc, storeCells]

theorem appendD (w : World) (base : Nat) (v : Value) (ds ps : List (List Nat)) (ao : Option Addr) (n c : Nat) (h : w.ownsRow base 23 32 v ds.length (flatD ds)) (hr : RdD w (.slice ao n c) ps) (hl : ds.length + ps.length ≤ 1000000000000) (hb : base ≤ w.heap.size) :
    ∃ ao' cap' w1, (Builtin.append_ #[25, 25] 25 #[v, .slice ao n c]).run Tryd.prog w = .ok (.slice ao' (ds.length + ps.length) cap') w1 ∧
      w1.ownsRow base 23 32 (.slice ao' (ds.length + ps.length) cap') (ds ++ ps).length (flatD (ds ++ ps)) ∧ w.grownBy w1 v.ownBlock := by
  obtain ⟨i0, hi, hz0, hz1, hz2⟩ := info_parts Tryd.infoD
  have hn := hr.nlP
  have hdg : ∀ d ∈ ps, d.length = 32 := fun d hd => (hr.dg hd).1
  rw [flatD_app, List.length_append]
  by_cases h0 : n = 0
  · subst h0
    have hp : ps = [] := List.eq_nil_of_length_eq_zero hn
    subst hp
    cases ao with
    | none =>
      have hrun := append_none (P := Tryd.prog) (w := w) base 25 25 23 i0 32 c Tryd.underlying25 hi v ds.length (flatD ds) h
      obtain ⟨ao', cap', rfl⟩ := owns_form h
      exact ⟨ao', cap', w, hrun, by simpa [flatD] using h, World.grownBy.refl _ _⟩
    | some ad =>
      obtain ⟨v', w1, hrun, hown, hgrow, _, hat⟩ := run_append_own_at (P := Tryd.prog) w base 25 25 23 i0 (.agg (zb 32)) 32 32 Tryd.underlying25 hi hz0 hz1 hz2 (by show (zb 32).size = 32; exact zb_size 32) (by decide)
        v ds.length (flatD ds) h ad 0 c (flatD []) (by simp [flatD]) (by intro j u hj; simp [flatD] at hj) (flatD_one _) (by unfold maxLen; omega) (by omega) hb
      obtain ⟨ao', cap', rfl⟩ := owns_form hown
      exact ⟨ao', cap', w1, hrun, hown, hgrow⟩
  · have hr' := hr
    obtain ⟨ao1, n1, c1, he, h1, h2, h3, h4, h5⟩ := hr'
    cases he
    obtain ⟨b, off, rfl, hc⟩ := h5 (by omega)
    obtain ⟨v', w1, hrun, hown, hgrow, _, hat⟩ := run_append_own_at (P := Tryd.prog) w base 25 25 23 i0 (.agg (zb 32)) 32 32 Tryd.underlying25 hi hz0 hz1 hz2 (by show (zb 32).size = 32; exact zb_size 32) (by decide)
      v ds.length (flatD ds) h ⟨b, off, none⟩ n c (flatD ps) (by rw [flatD_len hdg, hn]) hr.news (flatD_one _) (by unfold maxLen; omega) (by omega) hb
    subst h1
    obtain ⟨ao', cap', rfl⟩ := owns_form hown
    exact ⟨ao', cap', w1, hrun, hown, hgrow⟩

theorem wpList_appendD {ops : Array Oper} {rest : List Oper} {o : Oper} {a : Act} {Q : Exit → Act → World → Prop} (hgd : o.guard = none) (s x : Operand)
    (ho : o.op = .call { callee := .builtin .append, args := #[s, x], argTypes := #[25, 25] }) (hty : o.type = 25)
    (w : World) (base : Nat) (v : Value) (ds ps : List (List Nat)) (ao : Option Addr) (n c : Nat) (h : w.ownsRow base 23 32 v ds.length (flatD ds)) (hr : RdD w (.slice ao n c) ps) (hl : ds.length + ps.length ≤ 1000000000000) (hb : base ≤ w.heap.size)
    (hs : a.eval s = v) (hx : a.eval x = .slice ao n c)
    (hK : ∀ ao' cap' w1, Hid (w1.ownsRow base 23 32 (.slice ao' (ds.length + ps.length) cap') (ds ++ ps).length (flatD (ds ++ ps))) → Hid (w.grownBy w1 v.ownBlock) →
      wpList Tryd.prog ops Q rest (a.put o.dst (.slice ao' (ds.length + ps.length) cap')) w1) :
    wpList Tryd.prog ops Q (o :: rest) a w := by
  obtain ⟨ao', cap', w1, hrun, h2, h3⟩ := appendD w base v ds ps ao n c h hr hl hb
  refine wpList_plain hgd fun K hK' => ?_
  unfold Oper.wp execOp
  simp only [ho, hty, resolve, invoke, builtin, Sem.run_bind, Sem.run_pure, Result.andThen_ok, List.map_toArray, List.map_cons, List.map_nil, hs, hx, hrun]
  exact hK' _ _ (hK ao' cap' w1 h2 h3)

end Go.Proofs.YtbljofojeagdkaaDoor
namespace Go.Proofs.YtbljofojeagdkaaDoor
open Go.RowKit Go.BigFrame
set_option linter.unusedVariables false
set_option linter.unusedSimpArgs false

/-- The digests of ranges. -/
def rgL (z : Int) (L : List (List Nat)) (ss : List (Nat × Nat)) : List (List Nat) := ss.map fun s => rgD z L s.1 s.2
/-- A list of digests in memory of its own. -/
structure OwD (w0 w : World) (v : Value) (ds : List (List Nat)) : Prop where
  own : w.ownsRow w0.heap.size 23 32 v ds.length (flatD ds)
  dg : ∀ d ∈ ds, Dg d
  kept : Kept [] w0 w
theorem OwD.rd {w0 w : World} {v : Value} {ds : List (List Nat)} (h : OwD w0 w v ds) : RdD w v ds := rdd_owns h.own h.dg
theorem OwD.pass {w0 w w' : World} {v : Value} {ds : List (List Nat)} (h : OwD w0 w v ds) (k : Kept [] w w') : OwD w0 w' v ds := ⟨k.owns h.own (by simp), h.dg, h.kept.trans k (by simp)⟩
theorem OwD.nil (w : World) : OwD w w (.slice none 0 0) [] := ⟨World.ownsRow_nil _ _ _ _, by simp, Kept.refl _ _⟩
theorem OwD.push {w0 w w1 : World} {v u : Value} {ds : List (List Nat)} {d : List Nat} (h : OwD w0 w v ds) (hd : Dg d) (o : w1.ownsRow w0.heap.size 23 32 u (ds ++ [d]).length (flatD (ds ++ [d]))) (g : w.grownBy w1 v.ownBlock) : OwD w0 w1 u (ds ++ [d]) := by
  refine ⟨o, ?_, h.kept.grown g (by intro k hk; right; exact (h.own.lt k hk).1)⟩
  intro x hx
  rcases List.mem_append.1 hx with hx | hx
  · exact h.dg x hx
  · rw [List.mem_singleton] at hx; subst hx; exact hd

theorem Tryd.size_span : (Tryd.prog.info? 101).map (·.size) = some 2 := by kernel_rfl
theorem SpAt.cells {w0 w : World} {ao : Option Addr} {n c : Nat} {ss : List (Nat × Nat)} (h : SpAt w0 w (.slice ao n c) ss) (i : Nat) (hi : i < ss.length) : ∃ g, ao = some ⟨g, 0, none⟩ ∧ w.rangeAt g (i * 2) [.int .u64 (ss[i].1 : Int), .int .u64 (ss[i].2 : Int)] := by
  obtain ⟨base, _, h⟩ := h
  rcases h.2 with ⟨e, h0⟩ | ⟨g, cap, cur, e, _⟩
  · omega
  · cases e
    refine ⟨g, rfl, ?_⟩
    have hx := cellsS_get ss i hi
    have c1 := h.cells (g := g) rfl (2 * i) _ hx.1
    have c2 := h.cells (g := g) rfl (2 * i + 1) _ hx.2
    rw [Addr.add_mid, Nat.zero_add] at c1 c2
    intro j v hv
    match j, hv with
    | 0, hv => simp at hv; subst hv; rw [show i * 2 + 0 = 2 * i by omega]; exact c1
    | 1, hv => simp at hv; subst hv; rw [show i * 2 + 1 = 2 * i + 1 by omega]; exact c2
    | j + 2, hv => simp at hv
theorem one_digP (l : List Nat) (hl : l.length = 32) : List.foldl (fun cs x => cs.setIfInBounds x.snd x.fst) (zb 32) (List.map u8 l).zipIdx = brow l := by
  have h := fold_put (l.map u8) (zb 32) 0 0 (by rw [zb_size]; simp [hl])
  simp only [Nat.zero_add] at h
  rw [h]
  unfold brow
  rw [List.take_zero, List.nil_append, List.drop_eq_nil_of_le (by rw [List.length_map, hl, Array.length_toList, zb_size]; exact Nat.le_refl _), List.append_nil]

set_option maxRecDepth 100000 in
set_option maxHeartbeats 400000 in
theorem digests_nil (n : Int) (lv : Value) (w : World) :
    Calls Tryd.prog 35 #[.pointer none, .int .u64 n, lv] w fun e w' => e = .returned (.tuple #[.slice none 0 0, .int .i64 5]) ∧ w' = w := by
  go_enter Tryd.func35, Tryd.ntmps35
  go_wp2_with fail
  exact ⟨rfl, _, results_tmp2 rfl _ _ _, rfl, rfl⟩

set_option maxRecDepth 100000 in
set_option maxHeartbeats 400000 in
theorem digests_bad (z : Int) (t : Nat) (v lv : Value) (ps : List Pk) (n : Nat) (w : World) (hT : TreeAt z w t v ps) (hn : (leavesK ps).length < n) :
    Calls Tryd.prog 35 #[.pointer (some ⟨t, 0, none⟩), .int .u64 n, lv] w fun e w' => e = .returned (.tuple #[.slice none 0 0, .int .i64 4]) ∧ Kept [] w w' := by
  have HS := hide (sizeT_any t z v ps w hT)
  have hn' : ((leavesK ps).length : Int) < n := by omega
  generalize (leavesK ps).length = m at HS hn'
  go_enter Tryd.func35, Tryd.ntmps35
  go_wp2_with fail
  refine (unhide HS).mono ?_
  rintro e w1 ⟨rfl, rfl⟩
  go_wp2_with fail
  exact ⟨rfl, _, results_tmp2 rfl _ _ _, rfl, Kept.refl _ _⟩

set_option maxRecDepth 100000 in
set_option maxHeartbeats 1000000 in
theorem digests_any (z : Int) (t : Nat) (v lv : Value) (ps : List Pk) (n : Nat) (ss : List (Nat × Nat)) (w0 w : World) (hT : TreeAt z w t v ps) (hn : n ≤ (leavesK ps).length) (hb : (leavesK ps).length < 32768) (hs : SpAt w0 w lv ss) (hl : ss.length ≤ 1000) (hTb : Tabs w) (h6 : Tab6 w) :
    Calls Tryd.prog 35 #[.pointer (some ⟨t, 0, none⟩), .int .u64 n, lv] w fun e w' => ∃ u, e = .returned (.tuple #[u, .int .i64 0]) ∧ OwD w w' u (rgL z (leavesK ps) ss) := by
  have HS := hide (sizeT_any t z v ps w hT)
  have hn' : ¬ ((leavesK ps).length : Int) < n := by omega
  have HTR := hide hT
  have HTB := hide hTb
  have H6 := hide h6
  have HSP := hide hs
  have HBN := hide hb
  have HDG := hide (fun a b => rgD_len hT.pk a b)
  obtain ⟨sa, sc, rfl⟩ := hs.form
  generalize (leavesK ps).length = m at HS hn'
  clear hT hTb h6 hs hn hb
  go_enter Tryd.func35, Tryd.ntmps35
  go_wp2_with fail
  refine (unhide HS).mono ?_
  rintro e w1 ⟨rfl, rfl⟩
  go_wp2_with fail
  simp only [show decide (m < n) = false from decide_eq_false (by omega)]
  go_loopw [8, 21] (fun t8 t21 wr => ∃ (i : Nat), i ≤ ss.length ∧ t21 = .int .i64 (i : Int) ∧ Hid (OwD w1 wr t8 (rgL z (leavesK ps) (ss.take i)))) (fun _ t _ => ss.length - (intOf t).toNat)
  case atStart => exact ⟨0, Nat.zero_le _, rfl, hide (OwD.nil _)⟩
  case round =>
    obtain ⟨i, hi, rfl, HO⟩ := hrel
    by_cases hlt : i < ss.length
    · have hlt' : (i : Int) < (ss.length : Int) := by omega
      obtain ⟨g, hsa, hcell⟩ := ((unhide HSP).old (unhide HO).kept).cells i hlt
      subst hsa
      have HSN := hide (by unfold rgL; rw [List.take_add_one, List.getElem?_eq_getElem hlt, List.map_append]; rfl : rgL z (leavesK ps) (ss.take (i + 1)) = rgL z (leavesK ps) (ss.take i) ++ [rgD z (leavesK ps) ss[i].1 ss[i].2])
      have HLN := hide (by unfold rgL; rw [List.length_map, List.length_take]; omega : (rgL z (leavesK ps) (ss.take i)).length + 1 ≤ 1000000)
      have HDG1 := hide (unhide HDG ss[i].1 ss[i].2)
      generalize ss[i].1 = lo at hcell HSN HDG1
      generalize ss[i].2 = hi' at hcell HSN HDG1
      have HRG := hide (fun W (k : Kept [] w1 W) => rangeT_all z t v ps lo hi' W ((unhide HTR).old k) (unhide HBN) ((unhide HTB).kept k (by simp) (by simp)) ((unhide H6).kept k))
      generalize rgD z (leavesK ps) lo hi' = D at HRG HSN HDG1
      generalize rgE (leavesK ps) lo hi' = E at HRG
      have hdl := (unhide HDG1).1
      generalize rgL z (leavesK ps) (ss.take i) = ds at HO HSN HLN
      obtain ⟨ua, ucap, rfl⟩ := owns_form (unhide HO).own
      have ia : ¬ (i : Int) < 0 := by omega
      have ib : ¬ (ss.length : Int) ≤ i := by omega
      have kA := (Kept.refl [] wr).alloc (.cells #[.int .u64 (lo : Int), .int .u64 (hi' : Int)] 101)
      have HOA := hide ((unhide HO).pass kA)
      have HRC := hide (unhide HRG _ (unhide HOA).kept)
      have HCL := hide hcell
      clear hcell kA HRG
      go_wp2_with (first
        | (refine wpList_load_mid rfl 101 _ rfl g (i * 2) rfl [.int .u64 (lo : Int), .int .u64 (hi' : Int)] _ (unhide HCL) Tryd.underlying101 rfl (by exact Tryd.size_span) ?_))
      refine (unhide HRC).mono ?_
      rintro e wa ⟨rfl, ka⟩
      have HOB := hide (((unhide HOA).pass ka).pass (kept_old wa D))
      have HN := hide (cell_new wa D)
      clear ka HRC HOA HO HCL
      obtain ⟨wb, hwb⟩ : ∃ wb, (wa.alloc (.cells (zb 32) 23)).setRow wa.heap.size (brow D) = wb := ⟨_, rfl⟩
      rw [hwb] at HOB HN
      have HWB := hide hwb
      have HOC := hide ((unhide HOB).pass ((Kept.refl [] wb).alloc (.cells (brow D) 23)))
      have HNC := hide (heap_alloc_new wb (.cells (brow D) 23))
      clear hwb
      go_wp2_with (first
        | (rw [zb32]; refine wpList_store_row rfl 23 (.tmp 11) _ rfl wa.heap.size (brow D) rfl rfl _ (zb 32) (heap_alloc_new _ _) (Tryd.szD hdl) (by rw [zb_size, brow_size, hdl]) (brow_one _) ?_; rw [unhide HWB])
        | (refine wpList_load_mid rfl 23 _ rfl wa.heap.size 0 rfl (D.map u8) _ (range_row (unhide HN)) Tryd.underlying23 rfl (by rw [List.length_map, hdl]; exact Tryd.size_dig) ?_)
        | (at_builtin; rw [zb32, one_digP D hdl]; refine wpList_appendD rfl _ _ rfl rfl (wb.alloc (.cells (brow D) 23)) w1.heap.size (.slice ua ds.length ucap) ds [D] (some ⟨wb.heap.size, 0, none⟩) 1 1 (unhide HOC).own (RdD.oneP (unhide HNC) (unhide HDG1)) (by have := unhide HLN; simp; omega) (unhide HOC).kept.size rfl rfl ?_; intro ao3 cap3 w3 HO3 HG3; have HO4 := hide ((unhide HOC).push (unhide HDG1) (unhide HO3) (unhide HG3)); clear HO3 HG3))
      go_roundw
      case rel => exact ⟨i + 1, by omega, by simp, by rw [unhide HSN]; exact HO4⟩
      case measure => simp [intOf]; omega
    · have hlt' : ¬ (i : Int) < (ss.length : Int) := by omega
      have HE := hide (by rw [List.take_of_length_le (by omega)] : ss.take i = ss)
      go_wp2_with fail
      exact ⟨rfl, _, results_tmp2 rfl _ _ _, _, rfl, by have h9 := unhide HO; rw [unhide HE] at h9; exact h9⟩
end Go.Proofs.YtbljofojeagdkaaDoor
namespace Go.Proofs.YtbljofojeagdkaaDoor
open Go.RowKit Go.BigFrame
set_option linter.unusedVariables false
set_option linter.unusedSimpArgs false

theorem OwD.back {w0 w w' : World} {v : Value} {ds : List (List Nat)} (h : OwD w w' v ds) (k : Kept [] w0 w) : OwD w0 w' v ds := by
  refine ⟨⟨h.own.1, ?_⟩, h.dg, k.trans h.kept (by simp)⟩
  rcases h.own.2 with h1 | ⟨g, cap, cur, h1, h2, h3⟩
  · exact Or.inl h1
  · exact Or.inr ⟨g, cap, cur, h1, Nat.le_trans k.size h2, h3⟩
theorem OwD.form {w0 w : World} {v : Value} {ds : List (List Nat)} (h : OwD w0 w v ds) : ∃ ao cap, v = .slice ao ds.length cap := owns_form h.own
theorem OwD.zero {w0 w : World} (k : Kept [] w0 w) : OwD w0 w (.slice none 0 0) [] := (OwD.nil w).back k

/-- What Inclusion answers. -/
def inE (L : List (List Nat)) (i n : Nat) : Int := if n ≤ i ∨ L.length < n then 4 else 0
def inD (z : Int) (L : List (List Nat)) (i n : Nat) : List (List Nat) := if n ≤ i ∨ L.length < n then [] else rgL z L (pathF i 64 0 n)

set_option maxRecDepth 100000 in
set_option maxHeartbeats 400000 in
theorem mincl_any (z : Int) (t : Nat) (v : Value) (ps : List Pk) (i n : Nat) (w : World) (hT : TreeAt z w t v ps) (hb : (leavesK ps).length < 32768) (hTb : Tabs w) (h6 : Tab6 w) (hn64 : n < 18446744073709551616) :
    Calls Tryd.prog 18 #[.pointer (some ⟨t, 0, none⟩), .int .u64 i, .int .u64 n] w fun e w' => ∃ u, e = .returned (.tuple #[u, .int .i64 (inE (leavesK ps) i n)]) ∧ OwD w w' u (inD z (leavesK ps) i n) := by
  unfold inE inD
  by_cases h1 : n ≤ i
  · have h1' : (n : Int) ≤ (i : Int) := by omega
    rw [if_pos (Or.inl h1), if_pos (Or.inl h1)]
    go_enter Tryd.func18, Tryd.ntmps18
    go_wp2_with fail
    exact ⟨rfl, _, results_tmp2 rfl _ _ _, _, rfl, OwD.nil _⟩
  · have h1' : ¬ (n : Int) ≤ (i : Int) := by omega
    have HPA := hide (path_any i n w (by omega) hn64)
    have hpl := pathF_len i 64 0 n
    by_cases h2 : (leavesK ps).length < n
    · rw [if_pos (Or.inr h2), if_pos (Or.inr h2)]
      have HDB := hide (fun lv W (k : Kept [] w W) => digests_bad z t v lv ps n W (hT.old k) h2)
      clear hT h2
      go_enter Tryd.func18, Tryd.ntmps18
      go_wp2_with fail
      refine (unhide HPA).mono ?_
      rintro e w1 ⟨v1, rfl, s1, k1⟩
      have HK1 := hide k1
      clear s1 k1
      go_wp2_with fail
      refine (unhide HDB v1 w1 (unhide HK1)).mono ?_
      rintro e w2 ⟨rfl, k2⟩
      have HK2 := hide ((unhide HK1).trans k2 (by simp))
      clear k2
      go_wp2_with fail
      exact ⟨rfl, _, results_tmp2 rfl _ _ _, _, rfl, OwD.zero (unhide HK2)⟩
    · rw [if_neg (by omega), if_neg (by omega)]
      have HDB := hide (fun lv w0 W (k : Kept [] w W) (hs : SpAt w0 W lv (pathF i 64 0 n)) => digests_any z t v lv ps n _ w0 W (hT.old k) (by omega) hb hs (by omega) (hTb.kept k (by simp) (by simp)) (h6.kept k))
      clear hT h2 hb hTb h6
      generalize pathF i 64 0 n = ss at HPA HDB hpl ⊢
      generalize rgL z (leavesK ps) ss = ds at HDB ⊢
      go_enter Tryd.func18, Tryd.ntmps18
      go_wp2_with fail
      refine (unhide HPA).mono ?_
      rintro e w1 ⟨v1, rfl, s1, k1⟩
      have HK1 := hide k1
      have HS1 := hide s1
      clear s1 k1
      go_wp2_with fail
      refine (unhide HDB v1 w w1 (unhide HK1) (unhide HS1)).mono ?_
      rintro e w2 ⟨u, rfl, o2⟩
      have HO2 := hide (o2.back (unhide HK1))
      clear o2
      go_wp2_with fail
      exact ⟨rfl, _, results_tmp2 rfl _ _ _, u, rfl, unhide HO2⟩

/-- What Consistency answers. -/
def csE (L : List (List Nat)) (m n : Nat) : Int := if n < m ∨ L.length < n then 4 else 0
def csD (z : Int) (L : List (List Nat)) (m n : Nat) : List (List Nat) := if n < m ∨ L.length < n then [] else rgL z L (smL m n)
theorem smL_le (m n : Nat) : (smL m n).length ≤ 65 := by
  unfold smL
  have := seamF_len m 64 0 n true
  split
  · simp
  · omega

set_option maxRecDepth 100000 in
set_option maxHeartbeats 400000 in
theorem mcons_any (z : Int) (t : Nat) (v : Value) (ps : List Pk) (i n : Nat) (w : World) (hT : TreeAt z w t v ps) (hb : (leavesK ps).length < 32768) (hTb : Tabs w) (h6 : Tab6 w) (hn64 : n < 18446744073709551616) :
    Calls Tryd.prog 20 #[.pointer (some ⟨t, 0, none⟩), .int .u64 i, .int .u64 n] w fun e w' => ∃ u, e = .returned (.tuple #[u, .int .i64 (csE (leavesK ps) i n)]) ∧ OwD w w' u (csD z (leavesK ps) i n) := by
  unfold csE csD
  by_cases h1 : n < i
  · have h1' : (n : Int) < (i : Int) := by omega
    rw [if_pos (Or.inl h1), if_pos (Or.inl h1)]
    go_enter Tryd.func20, Tryd.ntmps20
    go_wp2_with fail
    exact ⟨rfl, _, results_tmp2 rfl _ _ _, _, rfl, OwD.nil _⟩
  · have h1' : ¬ (n : Int) < (i : Int) := by omega
    have HPA := hide (seam_any i n w (by omega) hn64)
    have hpl := smL_le i n
    by_cases h2 : (leavesK ps).length < n
    · rw [if_pos (Or.inr h2), if_pos (Or.inr h2)]
      have HDB := hide (fun lv W (k : Kept [] w W) => digests_bad z t v lv ps n W (hT.old k) h2)
      clear hT h2
      go_enter Tryd.func20, Tryd.ntmps20
      go_wp2_with fail
      refine (unhide HPA).mono ?_
      rintro e w1 ⟨v1, rfl, s1, k1⟩
      have HK1 := hide k1
      clear s1 k1
      go_wp2_with fail
      refine (unhide HDB v1 w1 (unhide HK1)).mono ?_
      rintro e w2 ⟨rfl, k2⟩
      have HK2 := hide ((unhide HK1).trans k2 (by simp))
      clear k2
      go_wp2_with fail
      exact ⟨rfl, _, results_tmp2 rfl _ _ _, _, rfl, OwD.zero (unhide HK2)⟩
    · rw [if_neg (by omega), if_neg (by omega)]
      have HDB := hide (fun lv w0 W (k : Kept [] w W) (hs : SpAt w0 W lv (smL i n)) => digests_any z t v lv ps n _ w0 W (hT.old k) (by omega) hb hs (by omega) (hTb.kept k (by simp) (by simp)) (h6.kept k))
      clear hT h2 hb hTb h6
      generalize smL i n = ss at HPA HDB hpl ⊢
      generalize rgL z (leavesK ps) ss = ds at HDB ⊢
      go_enter Tryd.func20, Tryd.ntmps20
      go_wp2_with fail
      refine (unhide HPA).mono ?_
      rintro e w1 ⟨v1, rfl, s1, k1⟩
      have HK1 := hide k1
      have HS1 := hide s1
      clear s1 k1
      go_wp2_with fail
      refine (unhide HDB v1 w w1 (unhide HK1) (unhide HS1)).mono ?_
      rintro e w2 ⟨u, rfl, o2⟩
      have HO2 := hide (o2.back (unhide HK1))
      clear o2
      go_wp2_with fail
      exact ⟨rfl, _, results_tmp2 rfl _ _ _, u, rfl, unhide HO2⟩
end Go.Proofs.YtbljofojeagdkaaDoor
namespace Go.Proofs.YtbljofojeagdkaaDoor
open Go.RowKit Go.BigFrame
set_option linter.unusedVariables false
set_option linter.unusedSimpArgs false

set_option maxRecDepth 100000 in
set_option maxHeartbeats 1000000 in
theorem twidth_any (n : Nat) (w : World) (hn : n < 256) :
    Calls Tryd.prog 21 #[.int .u8 n] w fun e w' => e = .returned (.int .i64 ((1 + n % 32 : Nat) : Int)) ∧ w' = w := by
  have h1 : IntKind.i64.wrap (n : Int) = n := by simp [IntKind.wrap, IntKind.signed, IntKind.bits]; omega
  obtain ⟨y, hy⟩ : ∃ y, n % 32 = y := ⟨_, rfl⟩
  have hy2 : (n : Int) % 32 = y := by omega
  have hy3 : (n : Int).tmod 32 = y := by rw [Int.tmod_eq_emod_of_nonneg (by omega)]; omega
  have hy32 : (y : Int) < 32 := by omega
  rw [hy]
  have HY := hide hy
  clear hy
  go_enter Tryd.func21, Tryd.ntmps21
  go_wp2
  go_ret
  exact ⟨by congr 2, rfl⟩

def cI (k i : Nat) (d : List Nat) : List Nat := (d.take k ++ List.replicate (i - k) 0) ++ d.drop i
theorem cI_len {k i : Nat} {d : List Nat} (h : k ≤ i) (hi : i ≤ 32) (hd : d.length = 32) : (cI k i d).length = 32 := by simp [cI, hd]; omega
theorem cI_set {k i : Nat} {d : List Nat} (h : k ≤ i) (hi : i < 32) (hd : d.length = 32) : (brow (cI k i d)).setIfInBounds i (.int .u8 0) = brow (cI k (i + 1) d) := by
  have hA : (d.take k ++ List.replicate (i - k) 0).length = i := by simp [hd]; omega
  have e1 : (cI k i d).set i 0 = cI k (i + 1) d := by
    unfold cI
    rw [List.set_append_right _ _ (by omega), hA, Nat.sub_self, List.drop_eq_getElem_cons (show i < d.length by omega), List.set_cons_zero, show i + 1 - k = (i - k) + 1 by omega, List.replicate_succ']
    simp
  rw [← e1]
  unfold brow
  rw [List.setIfInBounds_toArray, List.map_set]
  rfl
theorem cI_end {k : Nat} {d : List Nat} (hd : d.length = 32) : cI k 32 d = cutL k d := by unfold cI cutL; rw [List.drop_eq_nil_of_le (by omega), List.append_nil]
theorem cI_start {k : Nat} {d : List Nat} : cI k k d = d := by simp [cI]

set_option maxRecDepth 100000 in
set_option maxHeartbeats 1000000 in
theorem tcut_any (k : Nat) (d : List Nat) (w : World) (h1 : 1 ≤ k) (h2 : k ≤ 32) (hd : d.length = 32) (hb : ∀ x ∈ d, x < 256) :
    Calls Tryd.prog 39 #[.int .i64 k, .agg (brow d)] w fun e w' => e = .returned (.agg (brow (cutL k d))) ∧ Kept [] w w' := by
  have hcl := cutL_len k d h2 hd
  have HCE := hide (cI_end (k := k) hd)
  clear hb
  go_enter Tryd.func39, Tryd.ntmps39
  go_wp2_with fail
  rw [zb32]
  have HA := hide (heap_alloc2_old w (.cells (brow d) 23) (.cells (zb 32) 23))
  have HB := hide (heap_alloc2_new w (.cells (brow d) 23) (.cells (zb 32) 23))
  have HK := hide (((Kept.refl [] w).alloc (.cells (brow d) 23)).alloc (.cells (zb 32) 23))
  obtain ⟨W, hW⟩ : ∃ W, (w.alloc (.cells (brow d) 23)).alloc (.cells (zb 32) 23) = W := ⟨_, rfl⟩
  rw [hW] at HA HB HK ⊢
  clear hW
  go_loopw [5] (fun t wr => ∃ (i : Nat), k ≤ i ∧ i ≤ 32 ∧ t = .int .i64 i ∧ Hid (wr.heap[w.heap.size]? = some (.cells (brow (cI k i d)) 23 (0, 0))) ∧ Hid (wr.heap[w.heap.size + 1]? = some (.cells (zb 32) 23 (0, 0))) ∧ Hid (Kept [] w wr)) (fun t _ => 32 - (intOf t).toNat)
  case atStart => exact ⟨k, Nat.le_refl _, h2, rfl, hide (by rw [cI_start]; exact unhide HA), HB, HK⟩
  case round =>
    obtain ⟨i, hi1, hi2, rfl, HG, HZ, HKr⟩ := hrel
    by_cases hlt : i < 32
    · have hlt' : (i : Int) < 32 := by omega
      have q0 := brow_cell (unhide HG) i (by rw [cI_len hi1 hi2 hd]; exact hlt)
      simp only [Go.Proofs.YtbljofojeagdkaaDoor.u8] at q0
      have z0 : wr.frozen? ⟨w.heap.size, i, none⟩ = false := frozen_of_row _ _ _ _ _ (unhide HG)
      have k1 := (Kept.refl [w.heap.size] wr).setCell (p := ⟨w.heap.size, i, none⟩) (Or.inl (by simp)) (.int .u8 0)
      have HG2 := hide (by have h9 := heap_setCell_same wr w.heap.size i _ 23 (.int .u8 0) (unhide HG); rw [cI_set hi1 hlt hd] at h9; exact h9 : (wr.setCell ⟨w.heap.size, i, none⟩ (.int .u8 0)).heap[w.heap.size]? = some (.cells (brow (cI k (i + 1) d)) 23 (0, 0)))
      have HZ2 := hide (k1.heap (unhide HZ) (by simp))
      have HK2 := hide ((unhide HKr).setCell (p := ⟨w.heap.size, i, none⟩) (Or.inr (Nat.le_refl _)) (.int .u8 0))
      clear k1
      go_wp2
      refine ⟨⟨i + 1, by omega, by omega, by go_num, HG2, HZ2, HK2⟩, ?_⟩
      simp [intOf]; omega
    · have hlt' : ¬ (i : Int) < 32 := by omega
      have hi32 : i = 32 := by omega
      subst hi32
      rw [unhide HCE] at HG
      go_wp2_with (first
        | (refine wpList_load_row rfl 23 _ rfl w.heap.size rfl _ (brow (cutL k d)) (0, 0) _ (unhide HG) Tryd.underlying23 rfl (by rw [brow_size, hcl]; exact Tryd.size_dig) ?_)
        | (refine wpList_store_row rfl 23 _ _ rfl (w.heap.size + 1) (brow (cutL k d)) rfl rfl _ (zb 32) (unhide HZ) (by rw [brow_size, hcl]; exact Tryd.size_dig) (by rw [zb_size, brow_size, hcl]) (brow_one _) ?_))
      refine bodyPost_ret (v := .agg (brow (cutL k d))) ?_ rfl ⟨rfl, (unhide HKr).setRow (Or.inr (by omega)) _⟩
      exact results_cell_row rfl _ _ (w.heap.size + 1) _ (brow (cutL k d)) (0, 0) _ rfl (setRow_heap _ _ _ _ _ _ (unhide HZ)) Tryd.underlying23 rfl (by rw [brow_size, hcl]; exact Tryd.size_dig)

theorem wpList_load_midT {P : Program} {ops : Array Oper} {rest : List Oper} {op : Oper} {a : Act} {w : World} {Q : Exit → Act → World → Prop} (hw : Region.wanted op (yielded ops a.tmps) = true) (ty : TypeId) (x : Operand) (ho : op.op = .load ty x)
    (b o : Nat) (hx : a.eval x = .pointer (some ⟨b, o, none⟩)) (cs : List Value) (d : TypeDesc) (hc : w.rangeAt b o cs)
    (hu : P.underlying ty = some d) (hd : d.isRow = true) (hi : (P.info? ty).map (·.size) = some cs.length)
    (h : wpList P ops Q rest (a.put op.dst (.agg cs.toArray)) w) : wpList P ops Q (op :: rest) a w :=
  wpList_want hw fun _ hK => wp_load_mid ty x ho b o hx cs d hc hu hd hi (hK _ _ h)
theorem RdD_nil {w : World} : RdD w (.slice none 0 0) [] := ⟨none, 0, 0, rfl, rfl, Nat.le_refl _, by omega, fun d hd => by simp at hd, fun h => by omega⟩
theorem cutL_cut2 {k : Nat} {d : List Nat} (hk : k ≤ 32) (hd : d.length = 32) : cutL k (cutL k d) = cutL k d := cutL_cutL k d (by omega)
theorem cut_dg {k : Nat} {d : List Nat} (hk : k ≤ 32) (hd : Dg d) : Dg (cutL k d) := ⟨cutL_len k d hk hd.1, cutL_byte k d hd.2⟩
theorem cut_form {k : Nat} {d : List Nat} (h1 : 1 ≤ k) (hk : k ≤ 32) (hd : Dg d) : formB (k : Int) (cutL k d) = true := by
  have hw : widthB (k : Int) = true := by simp [widthB]; omega
  unfold formB
  rw [hw, Int.toNat_natCast, cutL_cut2 hk hd.1]
  simp

end Go.Proofs.YtbljofojeagdkaaDoor
namespace Go.Proofs.YtbljofojeagdkaaDoor
open Go.RowKit Go.BigFrame
set_option linter.unusedVariables false
set_option linter.unusedSimpArgs false

set_option maxRecDepth 100000 in
set_option maxHeartbeats 4000000 in
theorem push_any (z : Int) (t N base : Nat) (v : Value) (ps : List Pk) (leaf : List Nat) (w : World) (hrow : w.heap[t]? = some (.cells #[.int .i64 z, .int .u64 (N : Int), v] 83 (0, 0))) (hown0 : w.ownsRow base 87 33 v ps.length (cellsK ps)) (hpk : PKs z w ps) (hNl : N = (leavesK ps).length) (hN : N ≤ 1000000000) (hbw : base ≤ w.heap.size) (hw : widthB z = true) (hfar : Far t v) (hl : Dg leaf) (hf : formB z leaf = true) (hT : Tabs w) (h6 : Tab6 w) :
    Calls Tryd.prog 42 #[.pointer (some ⟨t, 0, none⟩), .agg (brow leaf)] w fun e w' => e = .returned (.tuple #[]) ∧ PushD z t N base v ps leaf w w' := by
  have hnp : ps.length ≤ N := by have := len_le_sum (ps.reverse.map (·.h)); rw [hNl, leavesK_len hpk.ok]; simpa using this
  obtain ⟨n, hn0⟩ : ∃ n, ps.length = n := ⟨_, rfl⟩
  obtain ⟨xs, hxs0⟩ : ∃ xs, cellsK ps = xs := ⟨_, rfl⟩
  have hown : w.ownsRow base 87 33 v n xs := by rw [← hn0, ← hxs0]; exact hown0
  have hn : n ≤ 1000000000 := by omega
  have HV0 := hide (by
    intro b hb
    rcases hown.2 with ⟨h9, _⟩ | ⟨g, cap, cur, h1, h2, h3, _⟩
    · rw [h9] at hb; simp [Value.ownBlock] at hb
    · rw [h1] at hb; simp [Value.ownBlock] at hb; subst hb; exact ⟨_, _, h3⟩ : ∀ b, v.ownBlock = some b → ∃ cs m, w.heap[b]? = some (.cells cs 87 m))
  have hvb : ∀ b, v.ownBlock = some b → b < w.heap.size ∧ ¬ b = t := fun b hb => ⟨(hown.lt b hb).2, fun e => by
    obtain ⟨cs, m, h9⟩ := unhide HV0 b hb
    rw [e, hrow] at h9; simp at h9⟩
  have HT0 := hide (⟨_, _, hrow⟩ : ∃ cs m, w.heap[t]? = some (.cells cs 83 m))
  have HST := hide (fun (wr : World) g1 cap1 => PuRel.start (t := t) (v := v) (wr := wr) (g1 := g1) (cap1 := cap1) (base := base) hpk hNl hl hf)
  rw [hn0, hxs0] at HST
  have HTw := hide (fun (W : World) (k : Kept (t :: v.ownBlock.toList) w W) => hfar.tabs hT k)
  have H6w := hide (fun (W : World) (k : Kept (t :: v.ownBlock.toList) w W) => hfar.tab6 h6 k)
  clear hnp hn0 hxs0 hown0 hpk hNl hf hT h6 hfar
  have kX := (Kept.refl [] w).alloc (.cells (brow leaf) 23)
  have HGX := hide (heap_alloc_new w (.cells (brow leaf) 23))
  have HRX := hide (kX.heap hrow (by simp))
  have HOX := hide (kX.owns hown (by simp))
  have hXs : (w.alloc (.cells (brow leaf) 23)).heap.size = w.heap.size + 1 := by simp
  go_enter Tryd.func42, Tryd.ntmps42
  go_wp2_with fail
  obtain ⟨X, hX⟩ : ∃ X, w.alloc (.cells (brow leaf) 23) = X := ⟨_, rfl⟩
  rw [hX] at HGX HRX HOX hXs kX ⊢
  have HKX := hide kX
  clear hX kX
  have cq : X.cell? ⟨t, 2, none⟩ = some v := cell_of_row _ _ 2 _ _ _ (unhide HRX)
  have hlb : (brow leaf).size = 32 := by rw [brow_size, hl.1]
  refine wp_pu12 (by kernel_rfl) (by kernel_rfl) (by kernel_rfl) (by kernel_rfl) (by kernel_rfl) (by kernel_rfl) (by kernel_rfl) (by kernel_rfl) (by kernel_rfl) (by kernel_rfl) (by kernel_rfl) (by kernel_rfl) (by kernel_rfl) (by kernel_rfl) (by kernel_rfl) (by kernel_rfl) (by kernel_rfl) (by kernel_rfl) (by kernel_rfl) (by kernel_rfl) (by kernel_rfl) (by kernel_rfl) (by kernel_rfl) (by kernel_rfl) rfl (by kernel_rfl) rfl (by kernel_rfl) rfl (by kernel_rfl) rfl (by kernel_rfl) rfl (by kernel_rfl)
    (.pointer (some ⟨t, 0, none⟩)) (.pointer (some ⟨t, 0, none⟩)) (.pointer (some ⟨t, 0, none⟩)) (.pointer (some ⟨t, 2, none⟩)) v (.agg (brow leaf)) (.agg (partC leaf (.pointer none)).toArray) _ _ _ _ _ _ _
    (fun w' => Kept v.ownBlock.toList X w')
    (fun w' => Kept [] X w')
    (fun u0 w' => (∃ H, u0 = .slice (some ⟨H, 0, none⟩) 1 1 ∧ w'.heap[H]? = some (.cells (partC leaf (.pointer none)).toArray 87 (0, 0))) ∧ Kept [] X w')
    (fun u0 u1 w' => (∃ g cap, u1 = .slice (some ⟨g, 0, none⟩) (n + 1) cap ∧ w'.ownsRow base 87 33 (.slice (some ⟨g, 0, none⟩) (n + 1) cap) (n + 1) (xs ++ partC leaf (.pointer none)) ∧ (v.ownBlock = some g ∨ w.heap.size ≤ g)) ∧ Kept v.ownBlock.toList X w')
    (fun u0 u1 u2 w' => u2 = .pointer (some ⟨t, 0, none⟩) ∧ (∃ g cap, u1 = .slice (some ⟨g, 0, none⟩) (n + 1) cap ∧ w'.ownsRow base 87 33 (.slice (some ⟨g, 0, none⟩) (n + 1) cap) (n + 1) (xs ++ partC leaf (.pointer none)) ∧ (v.ownBlock = some g ∨ w.heap.size ≤ g)) ∧ Kept v.ownBlock.toList X w')
    (fun u0 u1 u2 u3 w' => u3 = .pointer (some ⟨t, 2, none⟩) ∧ u2 = .pointer (some ⟨t, 0, none⟩) ∧ (∃ g cap, u1 = .slice (some ⟨g, 0, none⟩) (n + 1) cap ∧ w'.ownsRow base 87 33 (.slice (some ⟨g, 0, none⟩) (n + 1) cap) (n + 1) (xs ++ partC leaf (.pointer none)) ∧ (v.ownBlock = some g ∨ w.heap.size ≤ g)) ∧ Kept v.ownBlock.toList X w')
    (fun u0 u1 u2 u3 w' => (∃ g cap, u1 = .slice (some ⟨g, 0, none⟩) (n + 1) cap ∧ w'.ownsRow base 87 33 (.slice (some ⟨g, 0, none⟩) (n + 1) cap) (n + 1) (xs ++ partC leaf (.pointer none)) ∧ (v.ownBlock = some g ∨ w.heap.size ≤ g) ∧ w'.heap[t]? = some (.cells #[.int .i64 z, .int .u64 (N : Int), .slice (some ⟨g, 0, none⟩) (n + 1) cap] 83 (0, 0))) ∧ Kept (t :: v.ownBlock.toList) X w')
    (by simp only [Act.put, List.setIfInBounds_toArray, List.set_cons_zero, List.set_cons_succ]; rfl) (by exact Or.inl ⟨by rfl, fun W' hW' => by go_simp⟩)
    (by simp only [Act.put, List.setIfInBounds_toArray, List.set_cons_zero, List.set_cons_succ]; rfl) (by exact Or.inl ⟨by rfl, fun W' hW' => by go_simp⟩)
    (by simp only [Act.put, List.setIfInBounds_toArray, List.set_cons_zero, List.set_cons_succ]; rfl) (by exact Or.inl ⟨by rfl, fun W' hW' => by go_simp⟩)
    (by simp only [Act.put, List.setIfInBounds_toArray, List.set_cons_zero, List.set_cons_succ]; rfl) (by exact Or.inl ⟨by rfl, fun W' hW' => by go_simp⟩)
    (by simp only [Act.put, List.setIfInBounds_toArray, List.set_cons_zero, List.set_cons_succ]; rfl) (by exact Or.inl ⟨by rfl, fun W' hW' => by have h9 := hW'.cell cq (by intro hm; simp only [Option.mem_toList] at hm; have := hvb _ hm; omega); go_simp⟩)
    (by simp only [Act.put, List.setIfInBounds_toArray, List.set_cons_zero, List.set_cons_succ]; rfl) (by
      refine Or.inl ⟨by rfl, fun W' hW' => ?_⟩
      have h9 := run_loadVar_row (P := Tryd.prog) W' w.heap.size 23 23 (brow leaf) (0, 0) _ (hW'.heap (unhide HGX) (by intro hm; simp only [Option.mem_toList] at hm; have := hvb _ hm; omega)) Tryd.underlying23 rfl (by rw [hlb]; exact Tryd.size_dig)
      unfold execOp
      simp only [Instr.loadAt, Instr.sureAddr, Sem.run_bind, Sem.run_pure, Result.andThen_ok]
      change ((Sem.run Tryd.prog (loadVar 23 ⟨w.heap.size, 0, none⟩) W').andThen fun a w' => Result.ok (Next.value a) w') = _
      rw [h9]
      rfl)
    (by simp only [Act.put, List.setIfInBounds_toArray, List.set_cons_zero, List.set_cons_succ]; rfl) (by
      refine Or.inl ⟨by rfl, fun W' hW' => ?_⟩
      unfold execOp
      go_simp
      exact build_part leaf hl.1)
    (Kept.refl [] X).drew
    ⟨fun w' h => h.mono (by simp), fun u0 w' h => h.2.mono (by simp), fun u0 u1 w' h => h.2, fun u0 u1 u2 w' h => h.2.2, fun u0 u1 u2 u3 w' h => h.2.2.2⟩
    (by
      intro w' i K hK
      have hp33 := partC_len (k := .pointer none) hl.1
      have hb1 := hide (build_one leaf (.pointer none) hl.1)
      unfold Oper.wp execOp
      go_simp
      exact hK _ _ ⟨⟨_, rfl, (heap_alloc_new w' _).trans (by rw [← unhide hb1]; rfl)⟩, i.alloc _⟩)
    (by
      rintro u0 w' ⟨⟨H, rfl, hH⟩, i⟩ K hK
      obtain ⟨g, cap, w1, hrun, h3, h4, h5⟩ := pushK w' base v n xs leaf (.pointer none) H (i.owns (unhide HOX) (by simp)) hH hl.1 rfl (by omega) (by have := i.size; omega)
      exact wp_appendT rfl rfl rfl rfl hrun (hK _ _ ⟨⟨_, _, rfl, h3, h5.elim Or.inl (fun e => Or.inr (by have := i.size; omega))⟩, (i.mono (by simp)).grown h4 (by intro k hk; left; simp [hk])⟩))
    (by rintro u0 u1 w' ⟨⟨g, cap, rfl, h3, h8⟩, i⟩ K hK; unfold Oper.wp execOp; go_simp; exact hK _ _ ⟨rfl, ⟨_, _, rfl, h3, h8⟩, i⟩)
    (by rintro u0 u1 u2 w' ⟨rfl, ⟨g, cap, rfl, h3, h8⟩, i⟩ K hK; unfold Oper.wp execOp; go_simp; exact hK _ _ ⟨rfl, rfl, ⟨_, _, rfl, h3, h8⟩, i⟩)
    (by
      rintro u0 u1 u2 u3 w' ⟨rfl, rfl, ⟨g, cap, rfl, h3, h8⟩, i⟩ K hK
      have hq := i.heap (unhide HRX) (by intro hm; simp only [Option.mem_toList] at hm; have := hvb _ hm; omega)
      have cq9 := cell_of_row _ _ 2 _ _ _ hq
      have fz9 : w'.frozen? ⟨t, 2, none⟩ = false := by simp [World.frozen?, hq]
      have hset := heap_setCell_same w' t 2 _ 83 (.slice (some ⟨g, 0, none⟩) (n + 1) cap) hq
      have kS := (Kept.refl [t] w').setCell (p := ⟨t, 2, none⟩) (Or.inl (by simp)) (.slice (some ⟨g, 0, none⟩) (n + 1) cap)
      unfold Oper.wp execOp
      go_simp
      exact hK _ ⟨⟨_, _, rfl, kS.owns h3 (by intro b hb hm; simp [Value.ownBlock] at hb hm; subst hb; exact owns_ne h3 hq (by decide) hm.symm), h8, hset⟩, (i.mono (by simp; intro x hx; right; exact hx)).setCell (Or.inl (by simp)) _⟩)
    ?_
  rintro u0 u1 u2 u3 Y ⟨⟨g, cap, rfl, hO, hlie, hq⟩, kY⟩
  simp only [Act.put, List.setIfInBounds_toArray, List.set_cons_zero, List.set_cons_succ]
  have HO := hide hO
  have HLie := hide hlie
  have HQ := hide hq
  have HKY := hide kY
  have d1 := cell_of_row _ _ 1 _ _ _ hq
  have y1 := frozen_of_row _ _ 1 _ _ hq
  simp at d1
  clear hO hq kY cq hlb HGX HRX HOX hlie
  have hN' : (N : Int) + 1 < 18446744073709551616 := by omega
  have HQ2 := hide (heap_setCell_same _ _ 1 _ _ (.int .u64 ((N : Int) + 1)) (unhide HQ))
  have HK2 := hide ((unhide HKY).setCell (p := ⟨t, 1, none⟩) (Or.inl (by simp)) (.int .u64 ((N : Int) + 1)))
  have HOY := hide ((((Kept.refl [t] Y).setCell (p := ⟨t, 1, none⟩) (Or.inl (by simp)) (.int .u64 ((N : Int) + 1))).owns (unhide HO) (by intro b hb hm; simp [Value.ownBlock] at hb hm; subst hb; exact owns_ne (unhide HO) (unhide HQ) (by decide) hm.symm)))
  go_wp2_with fail
  obtain ⟨Z, hZ⟩ : ∃ Z, Y.setCell ⟨t, 1, none⟩ (.int .u64 ((N : Int) + 1)) = Z := ⟨_, rfl⟩
  rw [hZ] at HQ2 HK2 HOY ⊢
  clear hZ
  have e1 : (N : Int) + 1 = ((N + 1 : Nat) : Int) := by omega
  rw [e1] at HQ2 ⊢
  clear e1
  have HKZ := hide (((unhide HKX).mono (by simp)).trans (unhide HK2) (by intro x hx; left; exact hx) : Kept (t :: v.ownBlock.toList) w Z)
  obtain ⟨m, hcm⟩ := ctz_form (M := N + 1) (by omega) (by omega)
  have HR0 := hide (unhide HST Z g cap (unhide HKZ) (unhide HV0) (unhide HT0) (by simpa using unhide HQ2) (unhide HOY) (unhide HLie))
  have HFI := hide (fun front top g1 cap1 wr (h : PuRel z t (N + 1) base v ps leaf w (Lib.ctz 64 (N + 1)) front top g1 cap1 wr) => h.fin hcm)
  refine (tz64_any (N + 1) Z (by omega) (by omega) (unhide H6w Z ((unhide HKX).mono (by simp) |>.trans (unhide HK2) (by intro x hx; left; exact hx)))).mono ?_
  rintro e w3 ⟨rfl, rfl⟩
  clear hN' d1 y1 HQ HKY HO
  clear HST HOY HQ2 HLie HV0 HT0
  have hc64 := (Lib.lowest_bit 64 (N + 1) (by omega) (by omega)).2
  generalize Lib.ctz 64 (N + 1) = c at hcm HFI hc64 ⊢
  have HCM := hide hcm
  clear hcm
  have hMb : N + 1 ≤ 1000000001 := by omega
  generalize N + 1 = M at HCM HR0 HFI hMb ⊢
  go_wp2_with fail
  go_loopw [30] (fun t30 wr => ∃ (i : Nat) (front : List Pk) (top : Pk) (g1 cap1 : Nat), i ≤ c ∧ t30 = .int .i64 i ∧ Hid (PuRel z t M base v ps leaf w i front top g1 cap1 wr)) (fun t _ => c - (intOf t).toNat)
  case atStart => exact ⟨0, _, _, _, _, Nat.zero_le _, rfl, HR0⟩
  case round =>
    obtain ⟨i, front, top, g1, cap1, hi, rfl, HRL⟩ := hrel
    by_cases hlt : i < c
    · have hlt' : (i : Int) < c := by omega
      obtain ⟨front2, pa, hfr, HF0⟩ := (unhide HRL).facts hw (unhide HCM) hlt
      subst hfr
      have HF := hide HF0
      have cq := HF0.cq
      have cz := HF0.cz
      have htg := HF0.tg
      have hjM := HF0.jM
      have hjc0 := HF0.jc
      have hg1w := HF0.gw
      have hbg1 := HF0.bw
      have Hpa := hide HF0.ra
      have Htop := hide HF0.rt
      have HDGpa := hide HF0.la
      have HDGtop := hide HF0.lt
      have HOpa := hide HF0.oa
      have HOtop := hide HF0.ot
      clear HF0
      obtain ⟨j, hj⟩ : ∃ j, front2.length = j := ⟨_, rfl⟩
      rw [hj] at cq Hpa Htop hjM hjc0
      have hcap : (j : Int) + 2 ≤ 1000000001 := by omega
      have ix0 : ¬ (j : Int) + 1 < 0 := by omega
      have ix1 : ¬ (j : Int) + 2 ≤ j := by omega
      have ix2 : ¬ (j : Int) + 2 ≤ (j : Int) + 1 := by omega
      have wj : IntKind.i64.wrap ((j : Int) + 1) = (j : Int) + 1 := by simp [IntKind.wrap, IntKind.signed, IntKind.bits]; omega
      go_wp2_with fail
      refine wp_pu19 (by kernel_rfl) (by kernel_rfl) (by kernel_rfl) (by kernel_rfl) (by kernel_rfl) (by kernel_rfl) (by kernel_rfl) (by kernel_rfl) (by kernel_rfl) (by kernel_rfl) (by kernel_rfl) (by kernel_rfl) (by kernel_rfl) (by kernel_rfl) (by kernel_rfl) (by kernel_rfl) (by kernel_rfl) (by kernel_rfl) (by kernel_rfl) (by kernel_rfl) (by kernel_rfl) (by kernel_rfl) (by kernel_rfl) (by kernel_rfl) (by kernel_rfl) (by kernel_rfl) (by kernel_rfl) (by kernel_rfl) (by kernel_rfl) (by kernel_rfl) (by kernel_rfl) (by kernel_rfl) (by kernel_rfl) (by kernel_rfl) (by kernel_rfl) (by kernel_rfl) (by kernel_rfl) (by kernel_rfl) rfl rfl rfl rfl (by simp)
        (Value.pointer (some ⟨t, 0, none⟩)) (Value.pointer (some ⟨t, 0, none⟩)) (Value.pointer (some ⟨t, 2, none⟩)) (Value.slice (some ⟨g1, 0, none⟩) (j + 2) cap1) (.int .i64 (j : Int)) (.pointer (some ⟨g1, j * 33, none⟩)) (Value.agg (partC pa.s pa.k).toArray) (Value.pointer (some ⟨t, 0, none⟩)) (Value.pointer (some ⟨t, 0, none⟩)) (Value.pointer (some ⟨t, 2, none⟩)) (Value.slice (some ⟨g1, 0, none⟩) (j + 2) cap1) (.int .i64 (j : Int)) (.int .i64 ((j : Int) + 1)) (.pointer (some ⟨g1, (j + 1) * 33, none⟩)) (Value.agg (partC top.s top.k).toArray) _ _ _ _ _ _ _ _ _ _ _ _ _ _ _
        (fun w' => Kept [] wr w')
        (fun w' => Kept [] wr w')
        (fun u w' => ∃ gl, u = .pointer (some ⟨gl, 0, none⟩) ∧ wr.heap.size ≤ gl ∧ w'.heap[gl]? = some (.cells zP 87 (0, 0)) ∧ Kept [] wr w')
        (fun u w' => ∃ gl, u = .pointer (some ⟨gl, 0, none⟩) ∧ wr.heap.size ≤ gl ∧ w'.heap[gl]? = some (.cells zP 87 (0, 0)) ∧ Kept [] wr w')
        (fun u u' w' => ∃ gl gr, u = .pointer (some ⟨gl, 0, none⟩) ∧ u' = .pointer (some ⟨gr, 0, none⟩) ∧ gl ≠ gr ∧ wr.heap.size ≤ gl ∧ wr.heap.size ≤ gr ∧ w'.heap[gl]? = some (.cells zP 87 (0, 0)) ∧ w'.heap[gr]? = some (.cells zP 87 (0, 0)) ∧ Kept [] wr w')
        (fun u u' _ w' => ∃ gl gr, u = .pointer (some ⟨gl, 0, none⟩) ∧ u' = .pointer (some ⟨gr, 0, none⟩) ∧ gl ≠ gr ∧ wr.heap.size ≤ gl ∧ wr.heap.size ≤ gr ∧ w'.heap[gl]? = some (.cells (partC pa.s pa.k).toArray 87 (0, 0)) ∧ w'.heap[gr]? = some (.cells zP 87 (0, 0)) ∧ Kept [] wr w')
        (fun u u' _ _ w' => ∃ gl gr, u = .pointer (some ⟨gl, 0, none⟩) ∧ u' = .pointer (some ⟨gr, 0, none⟩) ∧ gl ≠ gr ∧ wr.heap.size ≤ gl ∧ wr.heap.size ≤ gr ∧ w'.heap[gl]? = some (.cells (partC pa.s pa.k).toArray 87 (0, 0)) ∧ w'.heap[gr]? = some (.cells (partC top.s top.k).toArray 87 (0, 0)) ∧ Kept [] wr w')
        (by simp only [Act.put, List.setIfInBounds_toArray, List.set_cons_zero, List.set_cons_succ]; rfl) (by exact Or.inl ⟨by rfl, fun W' hW' => by go_simp⟩)
        (by simp only [Act.put, List.setIfInBounds_toArray, List.set_cons_zero, List.set_cons_succ]; rfl) (by exact Or.inl ⟨by rfl, fun W' hW' => by go_simp⟩)
        (by simp only [Act.put, List.setIfInBounds_toArray, List.set_cons_zero, List.set_cons_succ]; rfl) (by exact Or.inl ⟨by rfl, fun W' hW' => by go_simp⟩)
        (by simp only [Act.put, List.setIfInBounds_toArray, List.set_cons_zero, List.set_cons_succ]; rfl) (by exact Or.inl ⟨by rfl, fun W' hW' => by have h9 := hW'.cell cq (by simp); go_simp⟩)
        (by simp only [Act.put, List.setIfInBounds_toArray, List.set_cons_zero, List.set_cons_succ]; rfl) (by exact Or.inl ⟨by rfl, fun W' hW' => by go_simp⟩)
        (by simp only [Act.put, List.setIfInBounds_toArray, List.set_cons_zero, List.set_cons_succ]; rfl) (by exact Or.inl ⟨by rfl, fun W' hW' => by go_simp⟩)
        (by simp only [Act.put, List.setIfInBounds_toArray, List.set_cons_zero, List.set_cons_succ]; rfl) (by
          refine Or.inl ⟨by rfl, fun W' hW' => ?_⟩
          have h9 := run_loadVar_mid (P := Tryd.prog) W' g1 (j * 33) 87 (partC pa.s pa.k) _ (fun k u hk => hW'.cell (unhide Hpa k u hk) (by simp)) Tryd.underlying87 rfl (by rw [partC_len (unhide HDGpa)]; exact size_part)
          unfold execOp
          simp only [Instr.loadAt, Instr.sureAddr, Sem.run_bind, Sem.run_pure, Result.andThen_ok]
          change ((Sem.run Tryd.prog (loadVar 87 ⟨g1, j * 33, none⟩) W').andThen fun a w' => Result.ok (Next.value a) w') = _
          rw [h9]
          rfl)
        (by simp only [Act.put, List.setIfInBounds_toArray, List.set_cons_zero, List.set_cons_succ]; rfl) (by exact Or.inl ⟨by rfl, fun W' hW' => by go_simp⟩)
        (by simp only [Act.put, List.setIfInBounds_toArray, List.set_cons_zero, List.set_cons_succ]; rfl) (by exact Or.inl ⟨by rfl, fun W' hW' => by go_simp⟩)
        (by simp only [Act.put, List.setIfInBounds_toArray, List.set_cons_zero, List.set_cons_succ]; rfl) (by exact Or.inl ⟨by rfl, fun W' hW' => by go_simp⟩)
        (by simp only [Act.put, List.setIfInBounds_toArray, List.set_cons_zero, List.set_cons_succ]; rfl) (by exact Or.inl ⟨by rfl, fun W' hW' => by have h9 := hW'.cell cq (by simp); go_simp⟩)
        (by simp only [Act.put, List.setIfInBounds_toArray, List.set_cons_zero, List.set_cons_succ]; rfl) (by exact Or.inl ⟨by rfl, fun W' hW' => by go_simp⟩)
        (by simp only [Act.put, List.setIfInBounds_toArray, List.set_cons_zero, List.set_cons_succ]; rfl) (by exact Or.inl ⟨by rfl, fun W' hW' => by go_simp⟩)
        (by simp only [Act.put, List.setIfInBounds_toArray, List.set_cons_zero, List.set_cons_succ]; rfl) (by exact Or.inl ⟨by rfl, fun W' hW' => by go_simp⟩)
        (by simp only [Act.put, List.setIfInBounds_toArray, List.set_cons_zero, List.set_cons_succ]; rfl) (by
          refine Or.inl ⟨by rfl, fun W' hW' => ?_⟩
          have h9 := run_loadVar_mid (P := Tryd.prog) W' g1 ((j + 1) * 33) 87 (partC top.s top.k) _ (fun k u hk => hW'.cell (unhide Htop k u hk) (by simp)) Tryd.underlying87 rfl (by rw [partC_len (unhide HDGtop)]; exact size_part)
          unfold execOp
          simp only [Instr.loadAt, Instr.sureAddr, Sem.run_bind, Sem.run_pure, Result.andThen_ok]
          change ((Sem.run Tryd.prog (loadVar 87 ⟨g1, (j + 1) * 33, none⟩) W').andThen fun a w' => Result.ok (Next.value a) w') = _
          rw [h9]
          rfl)
        (Kept.refl [] wr).drew
        ⟨fun w' h => h, fun u w' ⟨gl, _, _, _, k⟩ => k, fun u w' ⟨gl, _, _, _, k⟩ => k, fun u u' w' ⟨gl, gr, _, _, _, _, _, _, _, k⟩ => k, fun u u' _ w' ⟨gl, gr, _, _, _, _, _, _, _, k⟩ => k, fun u u' _ _ w' ⟨gl, gr, _, _, _, _, _, _, _, k⟩ => k⟩
        (by intro w' i K hK; unfold Oper.wp execOp; go_simp; exact hK _ _ ⟨_, rfl, i.size, heap_alloc_new w' (.cells zP 87), i.alloc _⟩)
        (by intro w' i K hK; unfold Oper.wp execOp; go_simp; exact hK _ _ ⟨_, rfl, i.size, heap_alloc_new w' (.cells zP 87), i.alloc _⟩)
        (by rintro u w' ⟨gl, rfl, h1, h2, i⟩ K hK; unfold Oper.wp execOp; go_simp; exact hK _ _ ⟨gl, _, rfl, rfl, by have := lt_of_block h2; omega, h1, i.size, ((Kept.refl [] w').alloc (.cells zP 87)).heap h2 (by simp), heap_alloc_new w' (.cells zP 87), i.alloc _⟩)
        (by rintro u w' ⟨gr, rfl, h1, h2, i⟩ K hK; unfold Oper.wp execOp; go_simp; exact hK _ _ ⟨_, gr, rfl, rfl, by have := lt_of_block h2; omega, i.size, h1, heap_alloc_new w' (.cells zP 87), ((Kept.refl [] w').alloc (.cells zP 87)).heap h2 (by simp), i.alloc _⟩)
        (by
          rintro u u' w' ⟨gl, gr, rfl, rfl, hne, h1, h2, h3, h4, i⟩ K hK
          exact wp_store_row 87 _ _ rfl gl (partC pa.s pa.k).toArray rfl rfl _ zP h3 (by rw [List.size_toArray, partC_len (unhide HDGpa)]; exact size_part) (by rw [zP_size, List.size_toArray, partC_len (unhide HDGpa)]) (unhide HOpa) (hK _ _ ⟨gl, gr, rfl, rfl, hne, h1, h2, setRow_heap _ _ _ _ _ _ h3, (setRow_other w' gl gr _ (fun e => hne e.symm)).trans h4, i.setRow (Or.inr h1) _⟩))
        (by
          rintro u u' u17 w' ⟨gl, gr, rfl, rfl, hne, h1, h2, h3, h4, i⟩ K hK
          exact wp_store_row 87 _ _ rfl gr (partC top.s top.k).toArray rfl rfl _ zP h4 (by rw [List.size_toArray, partC_len (unhide HDGtop)]; exact size_part) (by rw [zP_size, List.size_toArray, partC_len (unhide HDGtop)]) (unhide HOtop) (hK _ _ ⟨gl, gr, rfl, rfl, hne, h1, h2, (setRow_other w' gr gl _ hne).trans h3, setRow_heap _ _ _ _ _ _ h4, i.setRow (Or.inr h2) _⟩))
        ?_
      rintro u15 u16 u17 u18 W6 ⟨gl, gr, rfl, rfl, hne, hgl, hgr, hL6, hR6, k6⟩
      simp only [Act.put, List.setIfInBounds_toArray, List.set_cons_zero, List.set_cons_succ]
      go_wp2_with fail
      have cq6 : W6.cell? ⟨t, 2, none⟩ = some (Value.slice (some ⟨g1, 0, none⟩) (j + 2) cap1) := k6.cell cq (by simp)
      have cz6 : W6.cell? ⟨t, 0, none⟩ = some (.int .i64 z) := k6.cell cz (by simp)
      have hgl1 : ¬ gl = g1 := by omega
      have hgr1 : ¬ gr = g1 := by omega
      have hg1W : g1 < W6.heap.size := Nat.lt_of_lt_of_le hg1w k6.size
      have HLp := hide (range_rowV hL6 : W6.rangeAt gl 0 (partC pa.s pa.k))
      have HRp := hide (range_rowV hR6 : W6.rangeAt gr 0 (partC top.s top.k))
      have HLs := hide (range_part (unhide HLp) : W6.rangeAt gl 0 (pa.s.map u8))
      have HRs := hide (range_part (unhide HRp) : W6.rangeAt gr 0 (top.s.map u8))
      have HT6 := hide (k6.heap (unhide HRL).row (by simp))
      have HO6 := hide (k6.owns (owns_front (unhide HRL).own hj (unhide HF).la (unhide HF).lt (fun p hp => ((unhide HRL).pa p (by simp [hp])).dg.1)) (by simp))
      simp only [List.length_append, List.length_cons, List.length_nil, Nat.zero_add, hj, Nat.add_assoc, Nat.reduceAdd] at HT6
      have hbW : base ≤ W6.heap.size := by omega
      have HK6 := hide k6
      have HOV := hide (fun (w' : World) (k : Kept [] W6 w') => overT_any z pa.s top.s w' hw (unhide HF).da (unhide HF).dt (unhide HF).fa (unhide HF).ft (unhide HTw w' (((unhide HRL).kept.trans k6 (by simp)).trans k (by simp))))
      clear k6 hL6 hR6
      have hjc : (j : Int) ≤ cap1 := by omega
      have hj0 : ¬ (j : Int) < 0 := by omega
      refine wp_pu26 (by kernel_rfl) (by kernel_rfl) (by kernel_rfl) (by kernel_rfl) (by kernel_rfl) (by kernel_rfl) (by kernel_rfl) (by kernel_rfl) (by kernel_rfl) (by kernel_rfl) (by kernel_rfl) (by kernel_rfl) (by kernel_rfl) (by kernel_rfl) (by kernel_rfl) (by kernel_rfl) (by kernel_rfl) (by kernel_rfl) (by kernel_rfl) (by kernel_rfl) (by kernel_rfl) (by kernel_rfl) (by kernel_rfl) (by kernel_rfl) (by kernel_rfl) (by kernel_rfl) (by kernel_rfl) (by kernel_rfl) (by kernel_rfl) (by kernel_rfl) (by kernel_rfl) (by kernel_rfl) (by kernel_rfl) (by kernel_rfl) (by kernel_rfl) (by kernel_rfl) (by kernel_rfl) (by kernel_rfl) (by kernel_rfl) (by kernel_rfl) (by kernel_rfl) (by kernel_rfl) (by kernel_rfl) (by kernel_rfl) (by kernel_rfl) (by kernel_rfl) (by kernel_rfl) (by kernel_rfl) (by kernel_rfl) (by kernel_rfl) (by kernel_rfl) (by kernel_rfl) (by kernel_rfl) (by kernel_rfl) (by kernel_rfl) (by kernel_rfl) (by kernel_rfl) (by kernel_rfl) (by kernel_rfl) rfl rfl (by simp) (by kernel_rfl) rfl (by kernel_rfl) rfl (by kernel_rfl) rfl (by kernel_rfl) rfl (by kernel_rfl) rfl (by kernel_rfl) rfl (by kernel_rfl)
        (Value.pointer (some ⟨t, 0, none⟩)) (Value.pointer (some ⟨t, 0, none⟩)) (Value.pointer (some ⟨t, 0, none⟩)) (Value.pointer (some ⟨t, 2, none⟩)) (Value.slice (some ⟨g1, 0, none⟩) (j + 2) cap1) (.int .i64 (j : Int)) (.slice (some ⟨g1, 0, none⟩) j cap1) (Value.pointer (some ⟨t, 0, none⟩)) (Value.pointer (some ⟨t, 0, none⟩)) (.pointer (some ⟨t, 0, none⟩)) (.int .i64 z) (.pointer (some ⟨gl, 0, none⟩)) (.agg (brow pa.s)) (.pointer (some ⟨gr, 0, none⟩)) (.agg (brow top.s)) (.agg (partC pa.s pa.k).toArray) (.agg (partC top.s top.k).toArray) (.agg (partC pa.s pa.k ++ partC top.s top.k).toArray) _ _ _ _ _ _ _ _ _ _ _ _ _ _ _ _ _ _
        (fun w' => Kept [g1] W6 w')
        (fun w' => Kept [] W6 w')
        (fun u0 w' => u0 = .agg (brow (nodT z pa.s top.s)) ∧ Kept [] W6 w')
        (fun u1 w' => (∃ gk, u1 = .pointer (some ⟨gk, 0, none⟩) ∧ W6.heap.size ≤ gk ∧ w'.heap[gk]? = some (.cells (partC pa.s pa.k ++ partC top.s top.k).toArray 109 (0, 0))) ∧ Kept [] W6 w')
        (fun u0 u1 w' => u0 = .agg (brow (nodT z pa.s top.s)) ∧ (∃ gk, u1 = .pointer (some ⟨gk, 0, none⟩) ∧ W6.heap.size ≤ gk ∧ w'.heap[gk]? = some (.cells (partC pa.s pa.k ++ partC top.s top.k).toArray 109 (0, 0))) ∧ Kept [] W6 w')
        (fun u0 u1 u2 w' => (∃ gk, u1 = .pointer (some ⟨gk, 0, none⟩) ∧ W6.heap.size ≤ gk ∧ w'.heap[gk]? = some (.cells (partC pa.s pa.k ++ partC top.s top.k).toArray 109 (0, 0)) ∧ u2 = .agg (partC (nodT z pa.s top.s) (.pointer (some ⟨gk, 0, none⟩))).toArray) ∧ Kept [] W6 w')
        (fun u0 u1 u2 u3 w' => (∃ gk, u1 = .pointer (some ⟨gk, 0, none⟩) ∧ W6.heap.size ≤ gk ∧ w'.heap[gk]? = some (.cells (partC pa.s pa.k ++ partC top.s top.k).toArray 109 (0, 0)) ∧ ∃ H, u3 = .slice (some ⟨H, 0, none⟩) 1 1 ∧ w'.heap[H]? = some (.cells (partC (nodT z pa.s top.s) (.pointer (some ⟨gk, 0, none⟩))).toArray 87 (0, 0))) ∧ Kept [] W6 w')
        (fun u0 u1 u2 u3 u4 w' => (∃ gk, u1 = .pointer (some ⟨gk, 0, none⟩) ∧ W6.heap.size ≤ gk ∧ w'.heap[gk]? = some (.cells (partC pa.s pa.k ++ partC top.s top.k).toArray 109 (0, 0)) ∧ (∃ g2 cap2, u4 = .slice (some ⟨g2, 0, none⟩) (j + 1) cap2 ∧ w'.ownsRow base 87 33 (.slice (some ⟨g2, 0, none⟩) (j + 1) cap2) (j + 1) (cellsK front2 ++ partC (nodT z pa.s top.s) (.pointer (some ⟨gk, 0, none⟩))) ∧ (g2 = g1 ∨ W6.heap.size ≤ g2))) ∧ Kept [g1] W6 w')
        (fun u0 u1 u2 u3 u4 u5 w' => u5 = (Value.pointer (some ⟨t, 0, none⟩)) ∧ (∃ gk, u1 = .pointer (some ⟨gk, 0, none⟩) ∧ W6.heap.size ≤ gk ∧ w'.heap[gk]? = some (.cells (partC pa.s pa.k ++ partC top.s top.k).toArray 109 (0, 0)) ∧ (∃ g2 cap2, u4 = .slice (some ⟨g2, 0, none⟩) (j + 1) cap2 ∧ w'.ownsRow base 87 33 (.slice (some ⟨g2, 0, none⟩) (j + 1) cap2) (j + 1) (cellsK front2 ++ partC (nodT z pa.s top.s) (.pointer (some ⟨gk, 0, none⟩))) ∧ (g2 = g1 ∨ W6.heap.size ≤ g2))) ∧ Kept [g1] W6 w')
        (fun u0 u1 u2 u3 u4 u5 u6 w' => u6 = (Value.pointer (some ⟨t, 2, none⟩)) ∧ u5 = (Value.pointer (some ⟨t, 0, none⟩)) ∧ (∃ gk, u1 = .pointer (some ⟨gk, 0, none⟩) ∧ W6.heap.size ≤ gk ∧ w'.heap[gk]? = some (.cells (partC pa.s pa.k ++ partC top.s top.k).toArray 109 (0, 0)) ∧ (∃ g2 cap2, u4 = .slice (some ⟨g2, 0, none⟩) (j + 1) cap2 ∧ w'.ownsRow base 87 33 (.slice (some ⟨g2, 0, none⟩) (j + 1) cap2) (j + 1) (cellsK front2 ++ partC (nodT z pa.s top.s) (.pointer (some ⟨gk, 0, none⟩))) ∧ (g2 = g1 ∨ W6.heap.size ≤ g2))) ∧ Kept [g1] W6 w')
        (fun u0 u1 u2 u3 u4 u5 u6 w' => (∃ gk, u1 = .pointer (some ⟨gk, 0, none⟩) ∧ W6.heap.size ≤ gk ∧ w'.heap[gk]? = some (.cells (partC pa.s pa.k ++ partC top.s top.k).toArray 109 (0, 0)) ∧ (∃ g2 cap2, u4 = .slice (some ⟨g2, 0, none⟩) (j + 1) cap2 ∧ w'.ownsRow base 87 33 (.slice (some ⟨g2, 0, none⟩) (j + 1) cap2) (j + 1) (cellsK front2 ++ partC (nodT z pa.s top.s) (.pointer (some ⟨gk, 0, none⟩))) ∧ (g2 = g1 ∨ W6.heap.size ≤ g2) ∧ w'.heap[t]? = some (.cells #[.int .i64 z, .int .u64 (M : Int), .slice (some ⟨g2, 0, none⟩) (j + 1) cap2] 83 (0, 0)))) ∧ Kept [t, g1] W6 w')
        (by simp only [Act.put, List.setIfInBounds_toArray, List.set_cons_zero, List.set_cons_succ]; rfl) (by exact Or.inl ⟨by rfl, fun W' hW' => by go_simp⟩)
        (by simp only [Act.put, List.setIfInBounds_toArray, List.set_cons_zero, List.set_cons_succ]; rfl) (by exact Or.inl ⟨by rfl, fun W' hW' => by go_simp⟩)
        (by simp only [Act.put, List.setIfInBounds_toArray, List.set_cons_zero, List.set_cons_succ]; rfl) (by exact Or.inl ⟨by rfl, fun W' hW' => by go_simp⟩)
        (by simp only [Act.put, List.setIfInBounds_toArray, List.set_cons_zero, List.set_cons_succ]; rfl) (by exact Or.inl ⟨by rfl, fun W' hW' => by go_simp⟩)
        (by simp only [Act.put, List.setIfInBounds_toArray, List.set_cons_zero, List.set_cons_succ]; rfl) (by exact Or.inl ⟨by rfl, fun W' hW' => by have h9 := hW'.cell cq6 (by simpa using htg); go_simp⟩)
        (by simp only [Act.put, List.setIfInBounds_toArray, List.set_cons_zero, List.set_cons_succ]; rfl) (by exact Or.inl ⟨by rfl, fun W' hW' => by go_simp⟩)
        (by simp only [Act.put, List.setIfInBounds_toArray, List.set_cons_zero, List.set_cons_succ]; rfl) (by exact Or.inl ⟨by rfl, fun W' hW' => by go_simp⟩)
        (by simp only [Act.put, List.setIfInBounds_toArray, List.set_cons_zero, List.set_cons_succ]; rfl) (by exact Or.inl ⟨by rfl, fun W' hW' => by go_simp⟩)
        (by simp only [Act.put, List.setIfInBounds_toArray, List.set_cons_zero, List.set_cons_succ]; rfl) (by exact Or.inl ⟨by rfl, fun W' hW' => by go_simp⟩)
        (by simp only [Act.put, List.setIfInBounds_toArray, List.set_cons_zero, List.set_cons_succ]; rfl) (by exact Or.inl ⟨by rfl, fun W' hW' => by go_simp⟩)
        (by simp only [Act.put, List.setIfInBounds_toArray, List.set_cons_zero, List.set_cons_succ]; rfl) (by exact Or.inl ⟨by rfl, fun W' hW' => by have h9 := hW'.cell cz6 (by simpa using htg); go_simp⟩)
        (by simp only [Act.put, List.setIfInBounds_toArray, List.set_cons_zero, List.set_cons_succ]; rfl) (by exact Or.inl ⟨by rfl, fun W' hW' => by go_simp⟩)
        (by simp only [Act.put, List.setIfInBounds_toArray, List.set_cons_zero, List.set_cons_succ]; rfl) (by
          refine Or.inl ⟨by rfl, fun W' hW' => ?_⟩
          have h9 := run_loadVar_mid (P := Tryd.prog) W' gl 0 23 (pa.s.map u8) _ (fun k u hk => hW'.cell (unhide HLs k u hk) (by simpa using hgl1)) Tryd.underlying23 rfl (by rw [List.length_map, unhide HDGpa]; exact Tryd.size_dig)
          unfold execOp
          simp only [Instr.loadAt, Instr.sureAddr, Sem.run_bind, Sem.run_pure, Result.andThen_ok]
          change ((Sem.run Tryd.prog (loadVar 23 ⟨gl, 0, none⟩) W').andThen fun a w' => Result.ok (Next.value a) w') = _
          rw [h9]
          rfl)
        (by simp only [Act.put, List.setIfInBounds_toArray, List.set_cons_zero, List.set_cons_succ]; rfl) (by exact Or.inl ⟨by rfl, fun W' hW' => by go_simp⟩)
        (by simp only [Act.put, List.setIfInBounds_toArray, List.set_cons_zero, List.set_cons_succ]; rfl) (by
          refine Or.inl ⟨by rfl, fun W' hW' => ?_⟩
          have h9 := run_loadVar_mid (P := Tryd.prog) W' gr 0 23 (top.s.map u8) _ (fun k u hk => hW'.cell (unhide HRs k u hk) (by simpa using hgr1)) Tryd.underlying23 rfl (by rw [List.length_map, unhide HDGtop]; exact Tryd.size_dig)
          unfold execOp
          simp only [Instr.loadAt, Instr.sureAddr, Sem.run_bind, Sem.run_pure, Result.andThen_ok]
          change ((Sem.run Tryd.prog (loadVar 23 ⟨gr, 0, none⟩) W').andThen fun a w' => Result.ok (Next.value a) w') = _
          rw [h9]
          rfl)
        (by simp only [Act.put, List.setIfInBounds_toArray, List.set_cons_zero, List.set_cons_succ]; rfl) (by
          refine Or.inl ⟨by rfl, fun W' hW' => ?_⟩
          have h9 := run_loadVar_mid (P := Tryd.prog) W' gl 0 87 (partC pa.s pa.k) _ (fun k u hk => hW'.cell (unhide HLp k u hk) (by simpa using hgl1)) Tryd.underlying87 rfl (by rw [partC_len (unhide HDGpa)]; exact size_part)
          unfold execOp
          simp only [Instr.loadAt, Instr.sureAddr, Sem.run_bind, Sem.run_pure, Result.andThen_ok]
          change ((Sem.run Tryd.prog (loadVar 87 ⟨gl, 0, none⟩) W').andThen fun a w' => Result.ok (Next.value a) w') = _
          rw [h9]
          rfl)
        (by simp only [Act.put, List.setIfInBounds_toArray, List.set_cons_zero, List.set_cons_succ]; rfl) (by
          refine Or.inl ⟨by rfl, fun W' hW' => ?_⟩
          have h9 := run_loadVar_mid (P := Tryd.prog) W' gr 0 87 (partC top.s top.k) _ (fun k u hk => hW'.cell (unhide HRp k u hk) (by simpa using hgr1)) Tryd.underlying87 rfl (by rw [partC_len (unhide HDGtop)]; exact size_part)
          unfold execOp
          simp only [Instr.loadAt, Instr.sureAddr, Sem.run_bind, Sem.run_pure, Result.andThen_ok]
          change ((Sem.run Tryd.prog (loadVar 87 ⟨gr, 0, none⟩) W').andThen fun a w' => Result.ok (Next.value a) w') = _
          rw [h9]
          rfl)
        (by simp only [Act.put, List.setIfInBounds_toArray, List.set_cons_zero, List.set_cons_succ]; rfl) (by
          refine Or.inl ⟨by rfl, fun W' hW' => ?_⟩
          have l1 := partC_len (k := pa.k) (unhide HDGpa)
          have l2 := partC_len (k := top.k) (unhide HDGtop)
          have hf := pair_fold (partC pa.s pa.k) (partC top.s top.k) l1 l2
          have hz : ¬ (List.foldl (fun cs x => cs.setIfInBounds x.snd x.fst) Tryd.zeroCells109 (partC pa.s pa.k).zipIdx).size < 66 := by rw [fold_size, z87_size]; omega
          unfold execOp
          go_simp)
        (Kept.refl [] W6).drew
        ⟨fun w' h => h.mono (by simp), fun u0 w' h => h.2.mono (by simp), fun u1 w' h => h.2.mono (by simp), fun u0 u1 w' h => h.2.2.mono (by simp), fun u0 u1 u2 w' h => h.2.mono (by simp), fun u0 u1 u2 u3 w' h => h.2.mono (by simp), fun u0 u1 u2 u3 u4 w' h => h.2, fun u0 u1 u2 u3 u4 u5 w' h => h.2.2, fun u0 u1 u2 u3 u4 u5 u6 w' h => h.2.2.2⟩
        (by intro w' i K hK; exact wp_callN rfl Tryd.call63 [.int .i64 z, .agg (brow pa.s), .agg (brow top.s)] rfl (unhide HOV w' i) (fun e w2 h => ⟨_, h.1, hK _ _ ⟨rfl, i.trans h.2 (by simp)⟩⟩))
        (by intro w' i K hK; unfold Oper.wp execOp; go_simp; exact hK _ _ ⟨⟨_, rfl, i.size, heap_alloc_new _ _⟩, i.alloc _⟩)
        (by rintro u0 w' ⟨rfl, i⟩ K hK; unfold Oper.wp execOp; go_simp; exact hK _ _ ⟨rfl, ⟨_, rfl, i.size, heap_alloc_new _ _⟩, i.alloc _⟩)
        (by rintro u1 w' ⟨⟨gk, rfl, h1, h2⟩, i⟩ K hK; exact wp_callN rfl Tryd.call63 [.int .i64 z, .agg (brow pa.s), .agg (brow top.s)] rfl (unhide HOV w' i) (fun e w2 h => ⟨_, h.1, hK _ _ ⟨rfl, ⟨gk, rfl, h1, h.2.heap h2 (by simp)⟩, i.trans h.2 (by simp)⟩⟩))
        (by
          intro u0 u1 w' hh K hK
          simp only [Act.put, List.setIfInBounds_toArray, List.set_cons_zero, List.set_cons_succ] at hK ⊢
          obtain ⟨rfl, ⟨gk, rfl, h1, h2⟩, i⟩ := hh
          exact wp_build_part _ _ rfl (nodT z pa.s top.s) (.pointer (some ⟨gk, 0, none⟩)) (nodS_dg z pa.s top.s).1 rfl rfl rfl (hK _ _ ⟨⟨gk, rfl, h1, h2, rfl⟩, i⟩))
        (by
          intro u0 u1 u2 w' hh K hK
          simp only [Act.put, List.setIfInBounds_toArray, List.set_cons_zero, List.set_cons_succ] at hK ⊢
          obtain ⟨⟨gk, rfl, h1, h2, rfl⟩, i⟩ := hh
          have hnl : (nodT z pa.s top.s).length = 32 := (nodS_dg z pa.s top.s).1
          have hp33 := partC_len (k := .pointer (some ⟨gk, 0, none⟩)) hnl
          have hb1 := hide (build_one (nodT z pa.s top.s) (.pointer (some ⟨gk, 0, none⟩)) hnl)
          unfold Oper.wp execOp
          go_simp
          exact hK _ _ ⟨⟨gk, rfl, h1, ((Kept.refl [] w').alloc _).heap h2 (by simp), _, rfl, (heap_alloc_new w' _).trans (by rw [← unhide hb1]; rfl)⟩, i.alloc _⟩)
        (by
          intro u0 u1 u2 u3 w' hh K hK
          simp only [Act.put, List.setIfInBounds_toArray, List.set_cons_zero, List.set_cons_succ] at hK ⊢
          obtain ⟨⟨gk, rfl, h1, h2, H, rfl, hH⟩, i⟩ := hh
          have hnl : (nodT z pa.s top.s).length = 32 := (nodS_dg z pa.s top.s).1
          obtain ⟨g2, cap2, w1, hrun, h3, h4, h5⟩ := pushK w' base (.slice (some ⟨g1, 0, none⟩) j cap1) j (cellsK front2) (nodT z pa.s top.s) (.pointer (some ⟨gk, 0, none⟩)) H (i.owns (unhide HO6) (by simp)) hH hnl rfl (by omega) (Nat.le_trans hbW i.size)
          have k4 : Kept [g1] w' w1 := (Kept.refl [g1] w').grown h4 (by intro k hk; left; simp [Value.ownBlock] at hk; simp [hk])
          exact wp_appendT rfl rfl rfl rfl hrun (hK _ _ ⟨⟨gk, rfl, h1, k4.heap h2 (by simp; omega), g2, cap2, rfl, h3, h5.elim (fun e => Or.inl (by simp [Value.ownBlock] at e; exact e.symm)) (fun e => Or.inr (by have := i.size; omega))⟩, (i.mono (by simp)).trans k4 (by simp)⟩))
        (by
          intro u0 u1 u2 u3 u4 w' hh K hK
          simp only [Act.put, List.setIfInBounds_toArray, List.set_cons_zero, List.set_cons_succ] at hK ⊢
          obtain ⟨⟨gk, rfl, h1, h2, g2, cap2, rfl, h3, h8⟩, i⟩ := hh
          unfold Oper.wp execOp; go_simp; exact hK _ _ ⟨rfl, ⟨gk, rfl, h1, h2, g2, cap2, rfl, h3, h8⟩, i⟩)
        (by
          intro u0 u1 u2 u3 u4 u5 w' hh K hK
          simp only [Act.put, List.setIfInBounds_toArray, List.set_cons_zero, List.set_cons_succ] at hK ⊢
          obtain ⟨rfl, ⟨gk, rfl, h1, h2, g2, cap2, rfl, h3, h8⟩, i⟩ := hh
          unfold Oper.wp execOp; go_simp; exact hK _ _ ⟨rfl, rfl, ⟨gk, rfl, h1, h2, g2, cap2, rfl, h3, h8⟩, i⟩)
        (by
          intro u0 u1 u2 u3 u4 u5 u6 w' hh K hK
          simp only [Act.put, List.setIfInBounds_toArray, List.set_cons_zero, List.set_cons_succ] at hK ⊢
          obtain ⟨rfl, rfl, ⟨gk, rfl, h1, h2, g2, cap2, rfl, h3, h8⟩, i⟩ := hh
          have hq := i.heap (unhide HT6) (by simpa using htg)
          have kS := (Kept.refl [t] w').setCell (p := ⟨t, 2, none⟩) (Or.inl (by simp)) (.slice (some ⟨g2, 0, none⟩) (j + 1) cap2)
          have htW := lt_of_block (unhide HT6)
          exact wp_store_t2 _ _ rfl t _ _ ⟨_, _, _, rfl⟩ rfl rfl hq (by simp) (hK _ ⟨⟨gk, rfl, h1, kS.heap h2 (by simp; omega), g2, cap2, rfl, kS.owns h3 (by intro b hb hm; simp [Value.ownBlock] at hb hm; subst hb; exact owns_ne h3 hq (by decide) hm.symm), h8, heap_setCell_same w' t 2 _ 83 (.slice (some ⟨g2, 0, none⟩) (j + 1) cap2) hq⟩, (i.mono (by simp)).setCell (Or.inl (by simp)) _⟩))
        ?_
      rintro u0 u1 u2 u3 u4 u5 u6 W7 ⟨⟨gk, rfl, h1, h2, g2, cap2, rfl, h3, h8, h9⟩, k7⟩
      simp only [Act.put, List.setIfInBounds_toArray, List.set_cons_zero, List.set_cons_succ]
      rw [← hj] at h3 h9
      have HR1 := hide ((unhide HRL).step (unhide HF) (unhide HK6) k7 h1 h2 h3 h9 h8)
      clear h1 h2 h3 h9 h8 k7 HT6 HO6 HOV HLs HRs HLp HRp HK6 HF HRL Hpa Htop cq6 cz6 cq cz
      have hi1 : (i : Int) + 1 < 9223372036854775808 := by omega
      go_wp2_with fail
      refine ⟨⟨i + 1, _, _, _, _, by omega, by simp, HR1⟩, ?_⟩
      simp [intOf]
      omega
    · have hie : i = c := by omega
      subst hie
      have HE := hide (unhide HFI _ _ _ _ _ (unhide HRL))
      go_wp2_with fail
      exact ⟨rfl, _, results_none rfl _ _ _, rfl, unhide HE⟩

end Go.Proofs.YtbljofojeagdkaaDoor
namespace Go.Proofs.YtbljofojeagdkaaDoor
open Go.RowKit Go.BigFrame
set_option linter.unusedVariables false
set_option linter.unusedSimpArgs false

theorem owns_baseK {w : World} {b b' e s n : Nat} {v : Value} {xs : List Value} (h : w.ownsRow b e s v n xs) (hb : b' ≤ b) : w.ownsRow b' e s v n xs := by
  refine ⟨h.1, ?_⟩
  rcases h.2 with h9 | ⟨g, cap, cur, h1, h2, h3⟩
  · exact .inl h9
  · exact .inr ⟨g, cap, cur, h1, Nat.le_trans hb h2, h3⟩
/-- Append within: so many leaves are laid behind. -/
structure AppI (z : Int) (ps : List Pk) (ls : List (List Nat)) (w : World) (t base i : Nat) (v : Value) (qs : List Pk) (wr : World) : Prop where
  row : wr.heap[t]? = some (.cells #[.int .i64 z, .int .u64 (((leavesK ps).length + i : Nat) : Int), v] 83 (0, 0))
  own : wr.ownsRow base 87 33 v qs.length (cellsK qs)
  pk : PKs z wr qs
  lv : leavesK qs = leavesK ps ++ ls.take i
  nil : qs = [] → v = .slice none 0 0
  kept : Kept [] w wr
  bw : w.heap.size ≤ base
  bt : w.heap.size ≤ t
  br : base ≤ wr.heap.size
theorem AppI.far {z : Int} {ps : List Pk} {ls : List (List Nat)} {w : World} {t base i : Nat} {v : Value} {qs : List Pk} {wr : World} (h : AppI z ps ls w t base i v qs wr) (hT : Tabs w) (h6 : Tab6 w) : Far t v := by
  have e1 := block_lt_of_cell (hT.1 0 (by decide))
  have e2 := block_lt_of_cell (hT.2 0 (by decide))
  have e3 := block_lt_of_cell (h6 0 (by decide))
  simp only at e1 e2 e3
  intro b hb
  have hbb : w.heap.size ≤ b := by
    simp only [List.mem_cons, Option.mem_toList] at hb
    rcases hb with rfl | hb
    · exact h.bt
    · exact Nat.le_trans h.bw (h.own.lt b hb).1
  refine ⟨?_, ?_, ?_⟩ <;> omega
theorem AppI.len {z : Int} {ps : List Pk} {ls : List (List Nat)} {w : World} {t base i : Nat} {v : Value} {qs : List Pk} {wr : World} (h : AppI z ps ls w t base i v qs wr) (hi : i ≤ ls.length) : (leavesK ps).length + i = (leavesK qs).length := by
  rw [h.lv, List.length_append, List.length_take, Nat.min_eq_left hi]
theorem AppI.step {z : Int} {ps : List Pk} {ls : List (List Nat)} {w : World} {t base i : Nat} {v : Value} {qs : List Pk} {wr wa w' : World} (h : AppI z ps ls w t base i v qs wr) (hi : i < ls.length) (ka : Kept [] wr wa) (hp : PushD z t ((leavesK ps).length + i) base v qs (ls.getD i []) wa w') : ∃ v' rs, AppI z ps ls w t base (i + 1) v' rs w' := by
  obtain ⟨g, cap, rs, h1, h2, h3, h4, h5, h6, h7⟩ := hp
  refine ⟨_, rs, h1, h2, h3, ?_, fun e => absurd e h5, ?_, h.bw, h.bt, Nat.le_trans h.br (Nat.le_trans ka.size h6.size)⟩
  · rw [h4, h.lv, List.append_assoc, List.take_succ_eq_append_getElem hi, List.getD_eq_getElem?_getD, List.getElem?_eq_getElem hi]; rfl
  · refine (h.kept.trans ka (by simp)).trans h6 ?_
    intro x hx
    right
    simp only [List.mem_cons, Option.mem_toList] at hx
    rcases hx with rfl | hx
    · exact h.bt
    · exact Nat.le_trans h.bw (h.own.lt x hx).1
theorem owns_rdK {w : World} {base : Nat} {v : Value} {ps : List Pk} (h : w.ownsRow base 87 33 v ps.length (cellsK ps)) : RdK3 w v ps := by
  rcases id h.2 with ⟨h9, h1⟩ | ⟨g, cap, cur, h1, h2⟩
  · subst h9
    exact ⟨none, 0, by rw [h1], by omega, by omega, fun h => by omega⟩
  · subst h1
    exact owns_rd h rfl
theorem AppI.fin {z : Int} {ps : List Pk} {ls : List (List Nat)} {w : World} {t base : Nat} {v : Value} {qs : List Pk} {wr : World} (h : AppI z ps ls w t base ls.length v qs wr) (hw : widthB z = true) : TreeAt z wr t v qs ∧ leavesK qs = leavesK ps ++ ls := by
  have h1 := h.len (Nat.le_refl _)
  have h2 := h.row
  rw [h1] at h2
  exact ⟨⟨h2, hw, owns_rdK h.own, h.pk⟩, by rw [h.lv, List.take_length]⟩
end Go.Proofs.YtbljofojeagdkaaDoor
namespace Go.Proofs.YtbljofojeagdkaaDoor
open Go.RowKit Go.BigFrame
set_option linter.unusedVariables false
set_option linter.unusedSimpArgs false

/-- Peaks behind an empty row that is owned. -/
theorem appendK (w : World) (base : Nat) (v : Value) (ps : List Pk) (b off c : Nat) (h : w.ownsRow base 87 33 v 0 []) (hr : RdK3 w (.slice (some ⟨b, off, none⟩) ps.length c) ps) (hp : 0 < ps.length) (hlen : (cellsK ps).length = ps.length * 33) (h1 : ∀ u ∈ cellsK ps, u.oneCell' = true) (hl : ps.length ≤ 1000000000) (hb : base ≤ w.heap.size) :
    ∃ g cap w1, (Builtin.append_ #[81, 81] 81 #[v, .slice (some ⟨b, off, none⟩) ps.length c]).run Tryd.prog w = .ok (.slice (some ⟨g, 0, none⟩) ps.length cap) w1 ∧
      w1.ownsRow base 87 33 (.slice (some ⟨g, 0, none⟩) ps.length cap) ps.length (cellsK ps) ∧ w.grownBy w1 v.ownBlock ∧ (v.ownBlock = some g ∨ g = w.heap.size) := by
  obtain ⟨i0, hi, hz0, hz1, hz2⟩ := info_parts Tryd.infoP
  obtain ⟨ao, cap, he, h2, h3, h4⟩ := hr
  cases he
  obtain ⟨b', off', e, hc⟩ := h4 hp
  cases e
  obtain ⟨g, cap, w1, hrun, hown, hgrow, hat, hlt⟩ := run_append_lies (P := Tryd.prog) w 81 81 base 87 i0 (.agg zP) 33 40 Tryd.underlying81 hi hz0 hz1 hz2 rfl (by decide)
    v 0 [] h ⟨b, off, none⟩ ps.length c (cellsK ps) hlen (fun j u hj => by rw [Addr.add_mid]; exact hc j u hj) h1 hp (by unfold maxLen; omega) (by omega) hb _ rfl
  simp only [Nat.zero_add, List.nil_append] at hrun hown
  exact ⟨g, cap, w1, hrun, hown, hgrow, hat⟩

set_option maxRecDepth 100000 in
set_option maxHeartbeats 1000000 in
theorem cloneK_any (z : Int) (v : Value) (ps : List Pk) (w : World) (h : RdK3 w v ps) (hpk : PKs z w ps) (hnil : ps = [] → v = .slice none 0 0) (hl : ps.length ≤ 1000000000) :
    Calls Tryd.prog 41 #[v] w fun e w' => ∃ v', e = .returned v' ∧ w'.ownsRow w.heap.size 87 33 v' ps.length (cellsK ps) ∧ (ps = [] → v' = .slice none 0 0) ∧ Kept [] w w' := by
  by_cases hp : ps = []
  · subst hp
    obtain rfl := hnil rfl
    have hq : ∀ W : World, (binOp .eql 81 (.slice none 0 0) (.slice none 0 0)).run Tryd.prog W = .ok (.bool true) W := by
      intro W
      simp only [binOp]
      simp [run_equal_slice_nil W 81 87 none 0 0 Tryd.underlying81]
    go_enter Tryd.func41, Tryd.ntmps41
    go_wp2_with fail
    go_ret
    exact ⟨_, rfl, ⟨rfl, Or.inl ⟨rfl, rfl⟩⟩, rfl, Kept.refl _ _⟩
  · have hp0 : 0 < ps.length := List.length_pos_iff.2 hp
    have H := hide h
    obtain ⟨a1, c1, rfl, hc1, hc2, hc3⟩ := id h
    obtain ⟨b, off, rfl, _⟩ := hc3 hp0
    clear h hc3
    have HL := hide (cellsK_len' (fun p hp => (hpk.ok p hp).dg.1))
    have H1 := hide (cellsK_one hpk.ok)
    have HO := hide (World.ownsRow_made (base := w.heap.size) (e := 87) (size := 33) w #[] 0 (Nat.le_refl _) (by unfold maxLen; omega) (by simp))
    have hq : ∀ W : World, (binOp .eql 81 (.slice (some ⟨b, off, none⟩) ps.length c1) (.slice none 0 0)).run Tryd.prog W = .ok (.bool false) W := by
      intro W
      simp only [binOp]
      simp [run_equal_slice_nil W 81 87 (some ⟨b, off, none⟩) ps.length c1 Tryd.underlying81]
    obtain ⟨g, cap, w1, hrun, h3, h4, h5⟩ := appendK (w.alloc (.cells #[] 87)) w.heap.size (.slice (some ⟨w.heap.size, 0, none⟩) 0 0) ps b off c1 (unhide HO) ((unhide H).old ((Kept.refl [] w).alloc _)) hp0 (unhide HL) (unhide H1) hl (by simp)
    have HR := hide hrun
    have HO1 := hide h3
    have HK1 := hide (((Kept.refl [] w).alloc _).grown h4 (by intro k hk; right; simp [Value.ownBlock] at hk; omega))
    clear hrun h3 h4 h5 HO hpk hnil
    go_enter Tryd.func41, Tryd.ntmps41
    go_wp2_with (at_builtin; refine wpList_plain rfl fun K hK' => ?_; refine wp_appendT rfl rfl rfl rfl (unhide HR) (hK' _ _ ?_))
    go_ret
    exact ⟨_, rfl, unhide HO1, fun e => absurd e hp, unhide HK1⟩

end Go.Proofs.YtbljofojeagdkaaDoor
/-
  Laws for drawn regions, by genreg.py. No program.
-/
namespace Go.Proofs.YtbljofojeagdkaaDoor
open Go Go.RowKit Go.BigFrame
set_option linter.unusedVariables false
set_option linter.unusedSimpArgs false
section
variable {P : Program} {Q : Exit → Act → World → Prop}
theorem wp_ap16 {id : Nat} {o0 o1 o2 o3 o4 o5 o6 o7 o8 o9 o10 o11 o12 o13 o14 o15 : Oper} {a : Act} {w : World} (hm : P.follows .mixedOrders = true) (hs : Region.noSelect #[o0, o1, o2, o3, o4, o5, o6, o7, o8, o9, o10, o11, o12, o13, o14, o15] = true)
    (f0 : Region.free .any #[o0, o1, o2, o3, o4, o5, o6, o7, o8, o9, o10, o11, o12, o13, o14, o15] #[false, false, false, false, false, false, false, false, false, false, false, false, false, false, false, false] 0 = true) (r0 : (Region.ready .any #[o0, o1, o2, o3, o4, o5, o6, o7, o8, o9, o10, o11, o12, o13, o14, o15] #[false, false, false, false, false, false, false, false, false, false, false, false, false, false, false, false]).contains 0 = true)
    (f1 : Region.free .any #[o0, o1, o2, o3, o4, o5, o6, o7, o8, o9, o10, o11, o12, o13, o14, o15] #[true, false, false, false, false, false, false, false, false, false, false, false, false, false, false, false] 1 = true) (r1 : (Region.ready .any #[o0, o1, o2, o3, o4, o5, o6, o7, o8, o9, o10, o11, o12, o13, o14, o15] #[true, false, false, false, false, false, false, false, false, false, false, false, false, false, false, false]).contains 1 = true)
    (f2 : Region.free .any #[o0, o1, o2, o3, o4, o5, o6, o7, o8, o9, o10, o11, o12, o13, o14, o15] #[true, true, false, false, false, false, false, false, false, false, false, false, false, false, false, false] 2 = true) (r2 : (Region.ready .any #[o0, o1, o2, o3, o4, o5, o6, o7, o8, o9, o10, o11, o12, o13, o14, o15] #[true, true, false, false, false, false, false, false, false, false, false, false, false, false, false, false]).contains 2 = true)
    (f3 : Region.free .any #[o0, o1, o2, o3, o4, o5, o6, o7, o8, o9, o10, o11, o12, o13, o14, o15] #[true, true, true, false, false, false, false, false, false, false, false, false, false, false, false, false] 3 = true) (r3 : (Region.ready .any #[o0, o1, o2, o3, o4, o5, o6, o7, o8, o9, o10, o11, o12, o13, o14, o15] #[true, true, true, false, false, false, false, false, false, false, false, false, false, false, false, false]).contains 3 = true)
    (f4 : Region.free .any #[o0, o1, o2, o3, o4, o5, o6, o7, o8, o9, o10, o11, o12, o13, o14, o15] #[true, true, true, true, false, false, false, false, false, false, false, false, false, false, false, false] 4 = true) (r4 : (Region.ready .any #[o0, o1, o2, o3, o4, o5, o6, o7, o8, o9, o10, o11, o12, o13, o14, o15] #[true, true, true, true, false, false, false, false, false, false, false, false, false, false, false, false]).contains 4 = true)
    (f5 : Region.free .any #[o0, o1, o2, o3, o4, o5, o6, o7, o8, o9, o10, o11, o12, o13, o14, o15] #[true, true, true, true, true, false, false, false, false, false, false, false, false, false, false, false] 5 = true) (r5 : (Region.ready .any #[o0, o1, o2, o3, o4, o5, o6, o7, o8, o9, o10, o11, o12, o13, o14, o15] #[true, true, true, true, true, false, false, false, false, false, false, false, false, false, false, false]).contains 5 = true)
    (f6 : Region.free .any #[o0, o1, o2, o3, o4, o5, o6, o7, o8, o9, o10, o11, o12, o13, o14, o15] #[true, true, true, true, true, true, false, false, false, false, false, false, false, false, false, false] 6 = true) (r6 : (Region.ready .any #[o0, o1, o2, o3, o4, o5, o6, o7, o8, o9, o10, o11, o12, o13, o14, o15] #[true, true, true, true, true, true, false, false, false, false, false, false, false, false, false, false]).contains 6 = true)
    (f7 : Region.free .any #[o0, o1, o2, o3, o4, o5, o6, o7, o8, o9, o10, o11, o12, o13, o14, o15] #[true, true, true, true, true, true, true, false, false, false, false, false, false, false, false, false] 7 = true) (r7 : (Region.ready .any #[o0, o1, o2, o3, o4, o5, o6, o7, o8, o9, o10, o11, o12, o13, o14, o15] #[true, true, true, true, true, true, true, false, false, false, false, false, false, false, false, false]).contains 7 = true)
    (f8 : Region.free .any #[o0, o1, o2, o3, o4, o5, o6, o7, o8, o9, o10, o11, o12, o13, o14, o15] #[true, true, true, true, true, true, true, true, false, false, false, false, false, false, false, false] 8 = true) (r8 : (Region.ready .any #[o0, o1, o2, o3, o4, o5, o6, o7, o8, o9, o10, o11, o12, o13, o14, o15] #[true, true, true, true, true, true, true, true, false, false, false, false, false, false, false, false]).contains 8 = true)
    (f9 : Region.free .any #[o0, o1, o2, o3, o4, o5, o6, o7, o8, o9, o10, o11, o12, o13, o14, o15] #[true, true, true, true, true, true, true, true, true, false, false, false, false, false, false, false] 9 = true) (r9 : (Region.ready .any #[o0, o1, o2, o3, o4, o5, o6, o7, o8, o9, o10, o11, o12, o13, o14, o15] #[true, true, true, true, true, true, true, true, true, false, false, false, false, false, false, false]).contains 9 = true)
    (f10 : Region.free .any #[o0, o1, o2, o3, o4, o5, o6, o7, o8, o9, o10, o11, o12, o13, o14, o15] #[true, true, true, true, true, true, true, true, true, true, false, false, false, false, false, false] 10 = true) (r10 : (Region.ready .any #[o0, o1, o2, o3, o4, o5, o6, o7, o8, o9, o10, o11, o12, o13, o14, o15] #[true, true, true, true, true, true, true, true, true, true, false, false, false, false, false, false]).contains 10 = true)
    (f11 : Region.free .any #[o0, o1, o2, o3, o4, o5, o6, o7, o8, o9, o10, o11, o12, o13, o14, o15] #[true, true, true, true, true, true, true, true, true, true, true, false, false, false, false, false] 11 = true) (r11 : (Region.ready .any #[o0, o1, o2, o3, o4, o5, o6, o7, o8, o9, o10, o11, o12, o13, o14, o15] #[true, true, true, true, true, true, true, true, true, true, true, false, false, false, false, false]).contains 11 = true)
    (q_ : Region.ready .any #[o0, o1, o2, o3, o4, o5, o6, o7, o8, o9, o10, o11, o12, o13, o14, o15] #[true, true, true, true, true, true, true, true, true, true, true, true, false, false, false, false] = [12])
    (f_12_13 : Region.free .any #[o0, o1, o2, o3, o4, o5, o6, o7, o8, o9, o10, o11, o12, o13, o14, o15] #[true, true, true, true, true, true, true, true, true, true, true, true, true, false, false, false] 13 = true) (r_12_13 : (Region.ready .any #[o0, o1, o2, o3, o4, o5, o6, o7, o8, o9, o10, o11, o12, o13, o14, o15] #[true, true, true, true, true, true, true, true, true, true, true, true, true, false, false, false]).contains 13 = true)
    (q12_ : Region.ready .any #[o0, o1, o2, o3, o4, o5, o6, o7, o8, o9, o10, o11, o12, o13, o14, o15] #[true, true, true, true, true, true, true, true, true, true, true, true, true, true, false, false] = [14])
    (f12_14_15 : Region.free .any #[o0, o1, o2, o3, o4, o5, o6, o7, o8, o9, o10, o11, o12, o13, o14, o15] #[true, true, true, true, true, true, true, true, true, true, true, true, true, true, true, false] 15 = true) (r12_14_15 : (Region.ready .any #[o0, o1, o2, o3, o4, o5, o6, o7, o8, o9, o10, o11, o12, o13, o14, o15] #[true, true, true, true, true, true, true, true, true, true, true, true, true, true, true, false]).contains 15 = true)
    (q12_14_ : Region.ready .any #[o0, o1, o2, o3, o4, o5, o6, o7, o8, o9, o10, o11, o12, o13, o14, o15] #[true, true, true, true, true, true, true, true, true, true, true, true, true, true, true, true] = [])
    (g12 : o12.guard = none)    (g14 : o14.guard = none)
    (v0 v1 v2 v3 v4 v5 v6 v7 v8 v9 v10 v11 : Value) (A0 A1 A2 A3 A4 A5 A6 A7 A8 A9 A10 A11 : Act)
    (S : World → Prop)
    (I_ : World → Prop)
    (I12_ : Value → World → Prop)
    (I12_14_ : Value → Value → World → Prop)
    (v13 : Value → Value)
    (v15 : Value → Value)
    (p0 : a.put o0.dst v0 = A0) (hy0 : YieldsIf P #[o0, o1, o2, o3, o4, o5, o6, o7, o8, o9, o10, o11, o12, o13, o14, o15] S o0 v0 a)
    (p1 : A0.put o1.dst v1 = A1) (hy1 : YieldsIf P #[o0, o1, o2, o3, o4, o5, o6, o7, o8, o9, o10, o11, o12, o13, o14, o15] S o1 v1 A0)
    (p2 : A1.put o2.dst v2 = A2) (hy2 : YieldsIf P #[o0, o1, o2, o3, o4, o5, o6, o7, o8, o9, o10, o11, o12, o13, o14, o15] S o2 v2 A1)
    (p3 : A2.put o3.dst v3 = A3) (hy3 : YieldsIf P #[o0, o1, o2, o3, o4, o5, o6, o7, o8, o9, o10, o11, o12, o13, o14, o15] S o3 v3 A2)
    (p4 : A3.put o4.dst v4 = A4) (hy4 : YieldsIf P #[o0, o1, o2, o3, o4, o5, o6, o7, o8, o9, o10, o11, o12, o13, o14, o15] S o4 v4 A3)
    (p5 : A4.put o5.dst v5 = A5) (hy5 : YieldsIf P #[o0, o1, o2, o3, o4, o5, o6, o7, o8, o9, o10, o11, o12, o13, o14, o15] S o5 v5 A4)
    (p6 : A5.put o6.dst v6 = A6) (hy6 : YieldsIf P #[o0, o1, o2, o3, o4, o5, o6, o7, o8, o9, o10, o11, o12, o13, o14, o15] S o6 v6 A5)
    (p7 : A6.put o7.dst v7 = A7) (hy7 : YieldsIf P #[o0, o1, o2, o3, o4, o5, o6, o7, o8, o9, o10, o11, o12, o13, o14, o15] S o7 v7 A6)
    (p8 : A7.put o8.dst v8 = A8) (hy8 : YieldsIf P #[o0, o1, o2, o3, o4, o5, o6, o7, o8, o9, o10, o11, o12, o13, o14, o15] S o8 v8 A7)
    (p9 : A8.put o9.dst v9 = A9) (hy9 : YieldsIf P #[o0, o1, o2, o3, o4, o5, o6, o7, o8, o9, o10, o11, o12, o13, o14, o15] S o9 v9 A8)
    (p10 : A9.put o10.dst v10 = A10) (hy10 : YieldsIf P #[o0, o1, o2, o3, o4, o5, o6, o7, o8, o9, o10, o11, o12, o13, o14, o15] S o10 v10 A9)
    (p11 : A10.put o11.dst v11 = A11) (hy11 : YieldsIf P #[o0, o1, o2, o3, o4, o5, o6, o7, o8, o9, o10, o11, o12, o13, o14, o15] S o11 v11 A10)
    (i0 : I_ w.drew)
    (hIS : (∀ w', I_  w' → S w') ∧ (∀ (u12 : Value) w', I12_ u12 w' → S w') ∧ (∀ (u12 u14 : Value) w', I12_14_ u12 u14 w' → S w'))
    (s_12 : ∀ w', I_  w' → ∀ K : Act → World → Prop, (∀ (u12 : Value) w2, I12_ u12 w2 → K (A11.put o12.dst u12) w2) → o12.wp P A11 w' K (NoPanic Q))
    (s12_14 : ∀ (u12 : Value) w', I12_ u12 w' → ∀ K : Act → World → Prop, (∀ (u14 : Value) w2, I12_14_ u12 u14 w2 → K (((A11.put o12.dst u12).put o13.dst (v13 u12)).put o14.dst u14) w2) → o14.wp P ((A11.put o12.dst u12).put o13.dst (v13 u12)) w' K (NoPanic Q))
    (y_12_13 : ∀ (u12 : Value) w', I12_ u12 w' → YieldsIf P #[o0, o1, o2, o3, o4, o5, o6, o7, o8, o9, o10, o11, o12, o13, o14, o15] S o13 (v13 u12) (A11.put o12.dst u12))
    (y12_14_15 : ∀ (u12 u14 : Value) w', I12_14_ u12 u14 w' → YieldsIf P #[o0, o1, o2, o3, o4, o5, o6, o7, o8, o9, o10, o11, o12, o13, o14, o15] S o15 (v15 u14) (((A11.put o12.dst u12).put o13.dst (v13 u12)).put o14.dst u14))
    (h : ∀ (u12 u14 : Value) w', I12_14_ u12 u14 w' → Q .normal ((((A11.put o12.dst u12).put o13.dst (v13 u12)).put o14.dst u14).put o15.dst (v15 u14)) w') :
    (Code.region id #[o0, o1, o2, o3, o4, o5, o6, o7, o8, o9, o10, o11, o12, o13, o14, o15] true).wp P Q a w := by
  subst p0 p1 p2 p3 p4 p5 p6 p7 p8 p9 p10 p11
  obtain ⟨z_, z12_, z12_14_⟩ := hIS
  refine wp_region_noPanic ?_
  refine wp_region_held_drew (S := S) hm (z_ _ i0) (fun hH => ?_)
  show wpAnyH P .any #[o0, o1, o2, o3, o4, o5, o6, o7, o8, o9, o10, o11, o12, o13, o14, o15] (NoPanic Q) S 16 #[false, false, false, false, false, false, false, false, false, false, false, false, false, false, false, false] a w.drew
  refine wpAnyH_take (i := 0) (oi := o0) rfl hs f0 r0 (fun _ _ _ h => h) hy0 hH ?_
  refine wpAnyH_take (i := 1) (oi := o1) rfl hs f1 r1 (fun _ _ _ h => h) hy1 hH ?_
  refine wpAnyH_take (i := 2) (oi := o2) rfl hs f2 r2 (fun _ _ _ h => h) hy2 hH ?_
  refine wpAnyH_take (i := 3) (oi := o3) rfl hs f3 r3 (fun _ _ _ h => h) hy3 hH ?_
  refine wpAnyH_take (i := 4) (oi := o4) rfl hs f4 r4 (fun _ _ _ h => h) hy4 hH ?_
  refine wpAnyH_take (i := 5) (oi := o5) rfl hs f5 r5 (fun _ _ _ h => h) hy5 hH ?_
  refine wpAnyH_take (i := 6) (oi := o6) rfl hs f6 r6 (fun _ _ _ h => h) hy6 hH ?_
  refine wpAnyH_take (i := 7) (oi := o7) rfl hs f7 r7 (fun _ _ _ h => h) hy7 hH ?_
  refine wpAnyH_take (i := 8) (oi := o8) rfl hs f8 r8 (fun _ _ _ h => h) hy8 hH ?_
  refine wpAnyH_take (i := 9) (oi := o9) rfl hs f9 r9 (fun _ _ _ h => h) hy9 hH ?_
  refine wpAnyH_take (i := 10) (oi := o10) rfl hs f10 r10 (fun _ _ _ h => h) hy10 hH ?_
  refine wpAnyH_take (i := 11) (oi := o11) rfl hs f11 r11 (fun _ _ _ h => h) hy11 hH ?_
  generalize ((((((((((((a.put o0.dst v0).put o1.dst v1).put o2.dst v2).put o3.dst v3).put o4.dst v4).put o5.dst v5).put o6.dst v6).put o7.dst v7).put o8.dst v8).put o9.dst v9).put o10.dst v10).put o11.dst v11) = B at *
  have wa12 : ∀ y, Region.wanted o12 y = true := fun y => by unfold Region.wanted; rw [g12]
  have wa14 : ∀ y, Region.wanted o14 y = true := fun y => by unfold Region.wanted; rw [g14]
  have t12_14_ : ∀ (u12 u14 : Value) w', I12_14_ u12 u14 w' → wpAnyH P .any #[o0, o1, o2, o3, o4, o5, o6, o7, o8, o9, o10, o11, o12, o13, o14, o15] (NoPanic Q) S 0 #[true, true, true, true, true, true, true, true, true, true, true, true, true, true, true, true] ((((B.put o12.dst u12).put o13.dst (v13 u12)).put o14.dst u14).put o15.dst (v15 u14)) w' := by
    intro u12 u14 w0 i0
    exact ⟨q12_14_, NoPanic.normal (h u12 u14 w0 i0)⟩
  have t12_ : ∀ (u12 : Value) w', I12_ u12 w' → wpAnyH P .any #[o0, o1, o2, o3, o4, o5, o6, o7, o8, o9, o10, o11, o12, o13, o14, o15] (NoPanic Q) S 2 #[true, true, true, true, true, true, true, true, true, true, true, true, true, true, false, false] ((B.put o12.dst u12).put o13.dst (v13 u12)) w' := by
    intro u12 w0 i0
    refine wpAnyH_ready (rs := [14]) q12_ (by simp) (AllReadyH.cons (o := o14) rfl (fun K hK => ?_) AllReadyH.nil)
    · rw [if_pos (wa14 _)]
      refine s12_14 u12 w0 i0 K (fun u14 w1 i1 => hK.out _ _ (z12_14_ u12 u14 w1 i1) (fun _ => ?_))
      clear hK
      refine wpAnyH_take (i := 15) (oi := o15) rfl hs f12_14_15 r12_14_15 (fun _ _ _ h => h) (y12_14_15 u12 u14 w1 i1) (z12_14_ u12 u14 w1 i1) ?_
      exact t12_14_ u12 u14 w1 i1
  have t_ : ∀ w', I_  w' → wpAnyH P .any #[o0, o1, o2, o3, o4, o5, o6, o7, o8, o9, o10, o11, o12, o13, o14, o15] (NoPanic Q) S 4 #[true, true, true, true, true, true, true, true, true, true, true, true, false, false, false, false] B w' := by
    intro w0 i0
    refine wpAnyH_ready (rs := [12]) q_ (by simp) (AllReadyH.cons (o := o12) rfl (fun K hK => ?_) AllReadyH.nil)
    · rw [if_pos (wa12 _)]
      refine s_12  w0 i0 K (fun u12 w1 i1 => hK.out _ _ (z12_ u12 w1 i1) (fun _ => ?_))
      clear hK
      refine wpAnyH_take (i := 13) (oi := o13) rfl hs f_12_13 r_12_13 (fun _ _ _ h => h) (y_12_13 u12 w1 i1) (z12_ u12 w1 i1) ?_
      exact t12_ u12 w1 i1
  exact t_ w.drew i0

end
end Go.Proofs.YtbljofojeagdkaaDoor
namespace Go.Proofs.YtbljofojeagdkaaDoor
open Go.RowKit Go.BigFrame
set_option linter.unusedVariables false
set_option linter.unusedSimpArgs false

theorem appendT_nil (lv : Value) (w : World) : Calls Tryd.prog 24 #[.pointer none, lv] w fun e w' => e = .returned (.tuple #[.pointer none, .int .i64 5]) ∧ w' = w := by
  go_enter Tryd.func24, Tryd.ntmps24
  go_wp2
  exact bodyPost_ret (results_tmp2 rfl _ _ _) rfl ⟨rfl, rfl⟩

/-- What Append answers. -/
def AppD (z : Int) (ps : List Pk) (ls : List (List Nat)) (w : World) (e : Ending) (w' : World) : Prop :=
  (ls.all (formB z) = true → ∃ t' v' qs, e = .returned (.tuple #[.pointer (some ⟨t', 0, none⟩), .int .i64 0]) ∧ w.heap.size ≤ t' ∧ TreeAt z w' t' v' qs ∧ leavesK qs = leavesK ps ++ ls ∧ (qs = [] → v' = .slice none 0 0)) ∧
  (ls.all (formB z) = false → e = .returned (.tuple #[.pointer none, .int .i64 3])) ∧ Kept [] w w'

set_option maxRecDepth 100000 in
set_option maxHeartbeats 1000000 in
theorem appendT_any (z : Int) (t : Nat) (v lv : Value) (ps : List Pk) (ls : List (List Nat)) (w : World) (h : TreeAt z w t v ps) (hnil : ps = [] → v = .slice none 0 0) (hl : RdD w lv ls) (hN : (leavesK ps).length + ls.length ≤ 1000000000) (hT : Tabs w) (h6 : Tab6 w) :
    Calls Tryd.prog 24 #[.pointer (some ⟨t, 0, none⟩), lv] w (AppD z ps ls w) := by
  have hz : 1 ≤ z ∧ z ≤ 32 := by simpa [widthB] using h.wid
  have hz2 : -9223372036854775808 ≤ z ∧ z ≤ 9223372036854775807 := by omega
  have HT := hide h
  have HL := hide hl
  obtain ⟨ao, len, cap, rfl, h1, h2, h3, h4, h5⟩ := hl
  subst h1
  clear h4 h5 h
  have cz := cell_of_row _ _ 0 _ _ _ (unhide HT).row
  simp at cz
  have HTB := hide hT
  have H6B := hide h6
  have HNL := hide hnil
  clear hT h6 hnil
  go_enter Tryd.func24, Tryd.ntmps24
  go_wp2_with fail
  go_loopw [15] (fun t15 wr => ∃ (i : Nat), i ≤ ls.length ∧ t15 = .int .i64 i ∧ Hid ((ls.take i).all (formB z) = true) ∧ Hid (Kept [] w wr)) (fun t _ => ls.length - (intOf t).toNat)
  case atStart => exact ⟨0, Nat.zero_le _, rfl, hide (by simp), hide (Kept.refl _ _)⟩
  case round =>
    obtain ⟨j, hj, rfl, HAJ, HKJ⟩ := hrel
    by_cases hjl : j < ls.length
    · have hjl' : (j : Int) < ls.length := by omega
      obtain ⟨ra, rl, rc, re, r1, r2, r3, r4, r5⟩ := unhide HL
      cases re
      obtain ⟨b, o, rfl, hcell⟩ := r5 (by omega)
      have HD := hide (r4 (ls.getD j []) (by rw [List.getD_eq_getElem?_getD, List.getElem?_eq_getElem hjl]; exact List.getElem_mem hjl))
      have HRG := hide (fun u v hv => (unhide HKJ).cell (hcell j hjl u v hv) (by simp) : wr.rangeAt b (o + j * 32) ((ls.getD j []).map Go.Proofs.YtbljofojeagdkaaDoor.u8))
      have HN := hide (by rw [List.take_succ_eq_append_getElem hjl, List.all_append, unhide HAJ, List.getD_eq_getElem?_getD, List.getElem?_eq_getElem hjl]; simp : (ls.take (j + 1)).all (formB z) = formB z (ls.getD j []))
      have HM := hide (fun (h : formB z (ls.getD j []) = false) => by
        rw [List.all_eq_false]
        exact ⟨ls.getD j [], by rw [List.getD_eq_getElem?_getD, List.getElem?_eq_getElem hjl]; exact List.getElem_mem hjl, by rw [h]; decide⟩ : formB z (ls.getD j []) = false → ls.all (formB z) = false)
      clear hcell r4 r5
      obtain ⟨d, hd⟩ : ∃ d, ls.getD j [] = d := ⟨_, rfl⟩
      rw [hd] at HD HRG HN HM
      clear hd
      have hdl := (unhide HD).1
      have HSZ := hide (by rw [brow_size, hdl]; exact Tryd.size_dig : (Tryd.prog.info? 23).map (·.size) = some (brow d).size)
      have HNW := hide (setRow_heap (wr.alloc (.cells (zb 32) 23)) wr.heap.size (zb 32) (brow d) 23 (0, 0) (heap_alloc_new _ _))
      have HKN := hide (((unhide HKJ).alloc (.cells (zb 32) 23)).setRow (g := wr.heap.size) (Or.inr (unhide HKJ).size) (brow d))
      go_wp2_with (first
        | (refine wpList_load_mid rfl 23 (.tmp 17) rfl b (o + j * 32) rfl (d.map Go.Proofs.YtbljofojeagdkaaDoor.u8) _ (unhide HRG) Tryd.underlying23 rfl (by rw [List.length_map, hdl]; exact Tryd.size_dig) ?_)
        | (rw [zb32]; refine wpList_store_row rfl 23 (.tmp 7) _ rfl wr.heap.size (brow d) rfl rfl _ (zb 32) (heap_alloc_new _ _) (unhide HSZ) (by rw [zb_size, brow_size, hdl]) (brow_one _) ?_))
      obtain ⟨W, hW⟩ : ∃ W, (wr.alloc (.cells (zb 32) 23)).setRow wr.heap.size (brow d) = W := ⟨_, rfl⟩
      rw [hW] at HNW HKN ⊢
      clear hW
      have cz4 := (unhide HKN).cell cz (by simp)
      have HFO := hide (fun w' (hw' : Kept [] W w') => (form_any z d w' hz2 hdl (unhide HD).2).mono (fun e w2 (h2 : _ ∧ _) => (⟨h2.1, hw'.trans h2.2 (by simp)⟩ : _ ∧ Kept [] W w2)))
      cases hf : formB z d with
      | true =>
        rw [hf] at HN HFO
        clear hf
        have hne : ∀ p : Prop, (∀ w', Kept [] W w' → p) = p := fun p => propext ⟨fun h => h W (Kept.refl [] W), fun h _ _ => h⟩
        refine wp_region_keep (by kernel_rfl) (by kernel_rfl) ?_
        iterate 3 (go_big_quiet_step (fail))
        refine wpQuiet_val rfl (.int .i64 z) (fun w' hw' => run_load1 3 (.tmp 21) rfl ⟨t, 0, none⟩ rfl w' _ .i64 Tryd.underlying3 (hw'.cell cz4 (by simp))) ?_
        simp only [Act.put, List.setIfInBounds_toArray, List.set_cons_succ, List.set_cons_zero]
        refine wpQuiet_row rfl 23 (.tmp 7) rfl wr.heap.size rfl _ (brow d) (0, 0) _ (fun w' hw' => hw'.heap (unhide HNW) (by simp)) Tryd.underlying23 rfl (unhide HSZ) ?_
        simp only [Act.put, List.setIfInBounds_toArray, List.set_cons_succ, List.set_cons_zero]
        go_big_quiet_want
        go_big_quiet_op
        apply Exists.intro
        refine ⟨fun w' hw' => ?_, ?_⟩
        · exact unhide HFO w' hw'
        go_big_quiet_on
        repeat (go_big_quiet_step (fail))
        refine wpQuiet_nil ?_
        intro w6 hw6
        have HK6 := hide ((unhide HKN).trans hw6 (by simp))
        clear hw6
        go_wp2_with fail
        refine ⟨⟨j + 1, by omega, by go_num, HN, HK6⟩, ?_⟩
        simp [intOf]; omega
      | false =>
        have HF := hide (unhide HM hf)
        rw [hf] at HFO
        clear hf
        have hne : ∀ p : Prop, (∀ w', Kept [] W w' → p) = p := fun p => propext ⟨fun h => h W (Kept.refl [] W), fun h _ _ => h⟩
        refine wp_region_keep (by kernel_rfl) (by kernel_rfl) ?_
        iterate 3 (go_big_quiet_step (fail))
        refine wpQuiet_val rfl (.int .i64 z) (fun w' hw' => run_load1 3 (.tmp 21) rfl ⟨t, 0, none⟩ rfl w' _ .i64 Tryd.underlying3 (hw'.cell cz4 (by simp))) ?_
        simp only [Act.put, List.setIfInBounds_toArray, List.set_cons_succ, List.set_cons_zero]
        refine wpQuiet_row rfl 23 (.tmp 7) rfl wr.heap.size rfl _ (brow d) (0, 0) _ (fun w' hw' => hw'.heap (unhide HNW) (by simp)) Tryd.underlying23 rfl (unhide HSZ) ?_
        simp only [Act.put, List.setIfInBounds_toArray, List.set_cons_succ, List.set_cons_zero]
        go_big_quiet_want
        go_big_quiet_op
        apply Exists.intro
        refine ⟨fun w' hw' => ?_, ?_⟩
        · exact unhide HFO w' hw'
        go_big_quiet_on
        repeat (go_big_quiet_step (fail))
        refine wpQuiet_nil ?_
        intro w6 hw6
        have HK6 := hide ((unhide HKN).trans hw6 (by simp))
        clear hw6
        go_wp2_with fail
        exact bodyPost_ret (results_tmp2 rfl _ _ _) rfl ⟨fun h => absurd h (by rw [unhide HF]; decide), fun _ => rfl, unhide HK6⟩
    · have hjl' : ¬ (j : Int) < ls.length := by omega
      have hje : j = ls.length := by omega
      subst hje
      rw [List.take_length] at HAJ
      go_wp2_with fail
      have hN0 : (leavesK ps).length ≤ 1000000000 := by omega
      obtain ⟨va, vn, vc, rfl⟩ : ∃ a n c, v = .slice a n c := by obtain ⟨a, c, h9, _⟩ := (unhide HT).rd; exact ⟨_, _, _, h9⟩
      have c0 := (unhide HKJ).cell cz (by simp)
      have c1 : wr.cell? ⟨t, 1, none⟩ = some (.int .u64 ((leavesK ps).length : Int)) := (unhide HKJ).cell (by have := cell_of_row _ _ 1 _ _ _ (unhide HT).row; simpa using this) (by simp)
      have c2 : wr.cell? ⟨t, 2, none⟩ = some (.slice va vn vc) := (unhide HKJ).cell (by have := cell_of_row _ _ 2 _ _ _ (unhide HT).row; simpa using this) (by simp)
      have hpl : ps.length ≤ 1000000000 := by
        have h8 := len_le_sum (ps.reverse.map (·.h)); rw [← leavesK_len (unhide HT).pk.ok] at h8; simp at h8; omega
      have HCL := hide (fun w' (k : Kept [] wr w') => cloneK_any z (.slice va vn vc) ps w' (((unhide HT).rd.old (unhide HKJ)).old k) (((unhide HT).pk.old (unhide HKJ)).old k) (unhide HNL) hpl)
      refine wp_ap16 (by kernel_rfl) (by kernel_rfl) (by kernel_rfl) (by kernel_rfl) (by kernel_rfl) (by kernel_rfl) (by kernel_rfl) (by kernel_rfl) (by kernel_rfl) (by kernel_rfl) (by kernel_rfl) (by kernel_rfl) (by kernel_rfl) (by kernel_rfl) (by kernel_rfl) (by kernel_rfl) (by kernel_rfl) (by kernel_rfl) (by kernel_rfl) (by kernel_rfl) (by kernel_rfl) (by kernel_rfl) (by kernel_rfl) (by kernel_rfl) (by kernel_rfl) (by kernel_rfl) (by kernel_rfl) (by kernel_rfl) (by kernel_rfl) (by kernel_rfl) (by kernel_rfl) (by kernel_rfl) (by kernel_rfl) rfl rfl
        (.pointer (some ⟨t, 0, none⟩)) (.pointer (some ⟨t, 0, none⟩)) (.pointer (some ⟨t, 0, none⟩)) (.int .i64 z) (.pointer (some ⟨t, 0, none⟩)) (.pointer (some ⟨t, 0, none⟩)) (.pointer (some ⟨t, 1, none⟩)) (.int .u64 ((leavesK ps).length : Int)) (.pointer (some ⟨t, 0, none⟩)) (.pointer (some ⟨t, 0, none⟩)) (.pointer (some ⟨t, 2, none⟩)) (.slice va vn vc) _ _ _ _ _ _ _ _ _ _ _ _
        (fun w' => Kept [] wr w')
        (fun w' => Kept [] wr w')
        (fun u w' => (∃ a n c, u = .slice a n c ∧ w'.ownsRow wr.heap.size 87 33 (.slice a n c) ps.length (cellsK ps) ∧ (ps = [] → Value.slice a n c = .slice none 0 0)) ∧ Kept [] wr w')
        (fun u x w' => (∃ a n c t', u = .slice a n c ∧ w'.ownsRow wr.heap.size 87 33 (.slice a n c) ps.length (cellsK ps) ∧ (ps = [] → Value.slice a n c = .slice none 0 0) ∧ x = .pointer (some ⟨t', 0, none⟩) ∧ wr.heap.size ≤ t' ∧ w'.heap[t']? = some (.cells #[.int .i64 z, .int .u64 ((leavesK ps).length : Int), .slice a n c] 83 (0, 0))) ∧ Kept [] wr w')
        (fun u => .agg #[.int .i64 z, .int .u64 ((leavesK ps).length : Int), u]) (fun x => x)
        (by simp only [Act.put, List.setIfInBounds_toArray, List.set_cons_zero, List.set_cons_succ]; rfl) (by exact Or.inl ⟨by rfl, fun W' hW' => by go_simp⟩)
        (by simp only [Act.put, List.setIfInBounds_toArray, List.set_cons_zero, List.set_cons_succ]; rfl) (by exact Or.inl ⟨by rfl, fun W' hW' => by go_simp⟩)
        (by simp only [Act.put, List.setIfInBounds_toArray, List.set_cons_zero, List.set_cons_succ]; rfl) (by exact Or.inl ⟨by rfl, fun W' hW' => by go_simp⟩)
        (by simp only [Act.put, List.setIfInBounds_toArray, List.set_cons_zero, List.set_cons_succ]; rfl) (by exact Or.inl ⟨by rfl, fun W' hW' => by have h9 := hW'.cell c0 (by simp); go_simp⟩)
        (by simp only [Act.put, List.setIfInBounds_toArray, List.set_cons_zero, List.set_cons_succ]; rfl) (by exact Or.inl ⟨by rfl, fun W' hW' => by go_simp⟩)
        (by simp only [Act.put, List.setIfInBounds_toArray, List.set_cons_zero, List.set_cons_succ]; rfl) (by exact Or.inl ⟨by rfl, fun W' hW' => by go_simp⟩)
        (by simp only [Act.put, List.setIfInBounds_toArray, List.set_cons_zero, List.set_cons_succ]; rfl) (by exact Or.inl ⟨by rfl, fun W' hW' => by go_simp⟩)
        (by simp only [Act.put, List.setIfInBounds_toArray, List.set_cons_zero, List.set_cons_succ]; rfl) (by exact Or.inl ⟨by rfl, fun W' hW' => by have h9 := hW'.cell c1 (by simp); go_simp⟩)
        (by simp only [Act.put, List.setIfInBounds_toArray, List.set_cons_zero, List.set_cons_succ]; rfl) (by exact Or.inl ⟨by rfl, fun W' hW' => by go_simp⟩)
        (by simp only [Act.put, List.setIfInBounds_toArray, List.set_cons_zero, List.set_cons_succ]; rfl) (by exact Or.inl ⟨by rfl, fun W' hW' => by go_simp⟩)
        (by simp only [Act.put, List.setIfInBounds_toArray, List.set_cons_zero, List.set_cons_succ]; rfl) (by exact Or.inl ⟨by rfl, fun W' hW' => by go_simp⟩)
        (by simp only [Act.put, List.setIfInBounds_toArray, List.set_cons_zero, List.set_cons_succ]; rfl) (by exact Or.inl ⟨by rfl, fun W' hW' => by have h9 := hW'.cell c2 (by simp); go_simp⟩)
        (Kept.refl [] wr).drew
        ⟨fun w' h => h, fun u w' h => h.2, fun u x w' h => h.2⟩
        (by intro w' i K hK; refine wp_callN rfl Tryd.call41 [.slice va vn vc] rfl (unhide HCL w' i) ?_; rintro e w2 ⟨v', rfl, ho, hn, k2⟩; obtain ⟨a, n, c, rfl⟩ : ∃ a n c, v' = .slice a n c := by (rcases ho.2 with ⟨h9, _⟩ | ⟨g, cp, cur, h9, _⟩ <;> exact ⟨_, _, _, h9⟩)
            exact ⟨_, rfl, hK _ _ ⟨⟨a, n, c, rfl, owns_baseK ho i.size, hn⟩, i.trans k2 (by simp)⟩⟩)
        (by
          intro u w' hh K hK
          simp only [Act.put, List.setIfInBounds_toArray, List.set_cons_zero, List.set_cons_succ] at hK ⊢
          obtain ⟨⟨a, n, c, rfl, ho, hn⟩, i⟩ := hh
          unfold Oper.wp execOp
          go_simp
          exact hK _ _ ⟨⟨a, n, c, _, rfl, ((Kept.refl [] w').alloc _).owns ho (by simp), hn, rfl, i.size, heap_alloc_new _ _⟩, i.alloc _⟩)
        (by rintro u w' ⟨⟨a, n, c, rfl, _⟩, _⟩; exact Or.inl ⟨by rfl, fun W' hW' => by unfold execOp; go_simp⟩)
        (by rintro u x w' ⟨⟨a, n, c, t', rfl, _, _, rfl, _⟩, _⟩; exact Or.inl ⟨by rfl, fun W' hW' => by go_simp⟩)
        ?_
      rintro u x Y ⟨⟨a, n, c, t', rfl, ho, hn, rfl, ht', hrow⟩, kY⟩
      simp only [Act.put, List.setIfInBounds_toArray, List.set_cons_zero, List.set_cons_succ]
      have HO := hide ho
      have HNN := hide hn
      have HRW := hide hrow
      have HKY := hide ((unhide HKJ).trans kY (by simp))
      have HPK := hide ((unhide HT).pk.old ((unhide HKJ).trans kY (by simp)))
      have hszw := (unhide HKJ).size
      clear ho hn hrow kY HCL c0 c1 c2
      go_wp2_with fail
      have HI0 := hide (⟨by simpa using unhide HRW, unhide HO, unhide HPK, by simp, unhide HNN, unhide HKY, hszw, Nat.le_trans hszw ht', by have := (unhide HO).lt; have := lt_of_block (unhide HRW); omega⟩ : AppI z ps ls w t' wr.heap.size 0 (.slice a n c) ps Y)
      have hwid := hide (unhide HT).wid
      clear HO HNN HRW HKY HPK hpl HNL
      obtain ⟨base, hbase⟩ : ∃ base, base = wr.heap.size := ⟨_, rfl⟩
      rw [← hbase] at HI0
      clear hszw ht' hbase
      go_loopw [44] (fun t44 wq => ∃ (i : Nat) (v' : Value) (qs : List Pk), i ≤ ls.length ∧ t44 = .int .i64 i ∧ Hid (AppI z ps ls w t' base i v' qs wq)) (fun t _ => ls.length - (intOf t).toNat)
      case atStart => exact ⟨0, _, _, Nat.zero_le _, rfl, HI0⟩
      case round =>
        obtain ⟨i, v', qs, hi, rfl, HI⟩ := hrel
        by_cases hil : i < ls.length
        · have hil' : (i : Int) < ls.length := by omega
          obtain ⟨ra, rl, rc, re, r1, r2, r3, r4, r5⟩ := unhide HL
          cases re
          obtain ⟨b, o, rfl, hcell⟩ := r5 (by omega)
          have hmem : ls.getD i [] ∈ ls := by rw [List.getD_eq_getElem?_getD, List.getElem?_eq_getElem hil]; exact List.getElem_mem hil
          have HD := hide (r4 (ls.getD i []) hmem)
          have HFD := hide (List.all_eq_true.1 (unhide HAJ) _ hmem)
          have HRG := hide (fun u v hv => (unhide HI).kept.cell (hcell i hil u v hv) (by simp) : wr.rangeAt b (o + i * 32) ((ls.getD i []).map Go.Proofs.YtbljofojeagdkaaDoor.u8))
          clear hcell r4 r5 hmem
          obtain ⟨d, hd⟩ : ∃ d, ls.getD i [] = d := ⟨_, rfl⟩
          have HDD := hide hd
          rw [hd] at HD HRG HFD
          clear hd
          have hdl := (unhide HD).1
          have HSZ := hide (by rw [brow_size, hdl]; exact Tryd.size_dig : (Tryd.prog.info? 23).map (·.size) = some (brow d).size)
          have HNW := hide (setRow_heap (wr.alloc (.cells (zb 32) 23)) wr.heap.size (zb 32) (brow d) 23 (0, 0) (heap_alloc_new _ _))
          have HKN := hide (((Kept.refl [] wr).alloc (.cells (zb 32) 23)).setRow (g := wr.heap.size) (Or.inr (Nat.le_refl _)) (brow d))
          go_wp2_with (first
            | (refine wpList_load_mid rfl 23 (.tmp 46) rfl b (o + i * 32) rfl (d.map Go.Proofs.YtbljofojeagdkaaDoor.u8) _ (unhide HRG) Tryd.underlying23 rfl (by rw [List.length_map, hdl]; exact Tryd.size_dig) ?_)
            | (rw [zb32]; refine wpList_store_row rfl 23 (.tmp 10) _ rfl wr.heap.size (brow d) rfl rfl _ (zb 32) (heap_alloc_new _ _) (unhide HSZ) (by rw [zb_size, brow_size, hdl]) (brow_one _) ?_)
            | (refine wpList_load_row rfl 23 (.tmp 10) rfl wr.heap.size rfl _ (brow d) (0, 0) _ (unhide HNW) Tryd.underlying23 rfl (unhide HSZ) ?_))
          obtain ⟨W, hW⟩ : ∃ W, (wr.alloc (.cells (zb 32) 23)).setRow wr.heap.size (brow d) = W := ⟨_, rfl⟩
          rw [hW] at HKN ⊢
          clear hW HNW
          refine Calls.mono (push_any z t' ((leavesK ps).length + i) base v' qs d W ((unhide HKN).heap (unhide HI).row (by simp)) ((unhide HKN).owns (unhide HI).own (by simp)) ((unhide HI).pk.old (unhide HKN)) ((unhide HI).len hi) (by omega) (Nat.le_trans (unhide HI).br (unhide HKN).size) (unhide hwid) ((unhide HI).far (unhide HTB) (unhide H6B)) ⟨hdl, (unhide HD).2⟩ (unhide HFD) ((unhide HTB).kept ((unhide HI).kept.trans (unhide HKN) (by simp)) (by simp) (by simp)) ((unhide H6B).kept ((unhide HI).kept.trans (unhide HKN) (by simp)))) ?_
          rintro e w4 ⟨rfl, hpd⟩
          obtain ⟨v2, rs, hi2⟩ := (unhide HI).step hil (unhide HKN) (by rw [unhide HDD]; exact hpd)
          have HI2 := hide hi2
          clear hpd hi2 HI HKN
          go_wp2_with fail
          refine ⟨⟨i + 1, _, _, by omega, by go_num, HI2⟩, ?_⟩
          simp [intOf]; omega
        · have hil' : ¬ (i : Int) < ls.length := by omega
          have hie : i = ls.length := by omega
          subst hie
          have HF := hide ((unhide HI).fin (unhide hwid))
          go_wp2_with fail
          exact bodyPost_ret (results_tmp2 rfl _ _ _) rfl ⟨fun _ => ⟨t', v', qs, rfl, (unhide HI).bt, (unhide HF).1, (unhide HF).2, (unhide HI).nil⟩, fun h => absurd h (by rw [unhide HAJ]; decide), (unhide HI).kept⟩

end Go.Proofs.YtbljofojeagdkaaDoor
namespace Go.Proofs.YtbljofojeagdkaaDoor
open Go.RowKit Go.BigFrame
set_option linter.unusedVariables false
set_option linter.unusedSimpArgs false

/-- What the statements' tree answers. -/
def TrD (z : Int) (ls : List (List Nat)) (w : World) (e : Ending) (w' : World) : Prop :=
  (widthB z = false → e = .returned (.tuple #[.pointer none, .slice none 0 0, .bool false]) ∧ Kept [] w w') ∧
  (widthB z = true → ∃ t v qs u, e = .returned (.tuple #[.pointer (some ⟨t, 0, none⟩), u, .bool true]) ∧ TreeAt z w' t v qs ∧ leavesK qs = ls.map (cutL z.toNat) ∧ OwD w w' u (ls.map (cutL z.toNat)))
theorem cut_all {k : Nat} (h1 : 1 ≤ k) (h2 : k ≤ 32) {ls : List (List Nat)} (h : ∀ d ∈ ls, Dg d) : (ls.map (cutL k)).all (formB (k : Int)) = true := by
  rw [List.all_eq_true]
  intro x hx
  obtain ⟨d, hd, rfl⟩ := List.mem_map.1 hx
  exact cut_form h1 h2 (h d hd)

end Go.Proofs.YtbljofojeagdkaaDoor
namespace Go.Proofs.YtbljofojeagdkaaDoor
open Go.RowKit Go.BigFrame
set_option linter.unusedVariables false
set_option linter.unusedSimpArgs false

theorem stL_le : ∀ (c i n : Nat), stL c i n ≤ c
  | 0, _, _ => Nat.le_refl _
  | c + 1, i, n => by
    unfold stL
    have := stL_le c (i / 2) (n / 2 + n % 2)
    split
    · omega
    · split <;> omega
theorem stL_one (c i n : Nat) (h : n ≤ 1) : stL c i n = 0 := by
  cases c with
  | zero => rfl
  | succ c => unfold stL; rw [if_pos h]

end Go.Proofs.YtbljofojeagdkaaDoor
namespace Go.Proofs.YtbljofojeagdkaaDoor
open Go.RowKit Go.BigFrame
set_option linter.unusedVariables false
set_option linter.unusedSimpArgs false

theorem sinL_le : ∀ (c m n : Nat) (wh : Bool), sinL c m n wh ≤ c + 1
  | 0, _, _, wh => by unfold sinL; split <;> omega
  | c + 1, m, n, wh => by
    unfold sinL
    have h1 := sinL_le c m (belT n) wh
    have h2 := sinL_le c (m - belT n) (n - belT n) false
    split
    · split <;> omega
    · split <;> omega
theorem sinL_end (c m : Nat) (wh : Bool) : sinL c m m wh = if wh then 0 else 1 := by
  cases c with
  | zero => rfl
  | succ c => unfold sinL; rw [if_pos rfl]

theorem smL_len {m n : Nat} (hm : m ≤ n) (hn : n < 18446744073709551616) : (smL m n).length = if m = 0 then 0 else sinL 64 m n true := by
  unfold smL
  by_cases h0 : m = 0
  · rw [if_pos (Or.inl h0), if_pos h0]; rfl
  · rw [if_neg h0]
    by_cases h1 : m = n
    · rw [if_pos (Or.inr h1), h1, sinL_end]; rfl
    · rw [if_neg (by omega), seam_sin m 64 0 n true (by omega) hm (by omega)]; simp
theorem cntA_eq {i m n : Nat} (hi : i < n) (hm : m ≤ n) (hn : n < 18446744073709551616) : cntA i m n = (stL 64 i n : Int) := by
  unfold cntA
  rw [if_neg (by omega), path_all hi (by omega), levs_steps 64 i n hi (by omega)]

end Go.Proofs.YtbljofojeagdkaaDoor
namespace Go.Proofs.YtbljofojeagdkaaDoor
open Go.RowKit Go.BigFrame
set_option linter.unusedVariables false
set_option linter.unusedSimpArgs false

theorem RdD.flat {w : World} {g : Nat} {ds : List (List Nat)} {t : TypeId} {fr : Nat × Nat} (h : w.heap[g]? = some (.cells (flatD ds).toArray t fr)) (hd : ∀ d ∈ ds, Dg d) (n : Nat) (hn : ds.length = n) (hs : n ≤ 1000000) : RdD w (.slice (some ⟨g, 0, none⟩) n n) ds := by
  subst hn
  refine ⟨_, _, _, rfl, rfl, Nat.le_refl _, by omega, hd, fun _ => ⟨g, 0, rfl, fun i hi => ?_⟩⟩
  intro j v hv
  have hj : j < 32 := by
    have := (List.getElem?_eq_some_iff.1 hv).1
    rw [List.length_map, List.getD_eq_getElem?_getD, List.getElem?_eq_getElem hi] at this
    rw [← (hd ds[i] (List.getElem_mem hi)).1]; exact this
  have hq := flatD_at (fun d hd' => (hd d hd').1) i hi j hj
  rw [Nat.zero_add, cell_of_row _ _ _ _ _ _ h, List.getElem?_toArray, hq]
  exact hv
theorem RdD.range {w : World} {ao : Option Addr} {n c : Nat} {ds : List (List Nat)} (h : RdD w (.slice ao n c) ds) (hp : 0 < ds.length) : ∃ b o, ao = some ⟨b, o, none⟩ ∧ ∀ i, i < ds.length → w.rangeAt b (o + i * 32) ((ds.getD i []).map u8) := by
  obtain ⟨_, _, _, e, h1, h2, h3, h4, h5⟩ := h
  cases e
  obtain ⟨b, o, e, hc⟩ := h5 (by omega)
  exact ⟨b, o, e, fun i hi => hc i (by omega)⟩

def e1 : List Nat := 1 :: List.replicate 31 0
def e2 : List Nat := 2 :: List.replicate 31 0
def e3 : List Nat := 3 :: List.replicate 31 0
theorem e_dg : ∀ d ∈ [e1, e2, e3], Dg d := by
  intro d hd
  simp only [List.mem_cons, List.not_mem_nil, or_false] at hd
  rcases hd with rfl | rfl | rfl <;> exact ⟨rfl, by decide⟩
theorem e_cut : [e1, e2, e3].map (cutL 4) = [e1, e2, e3] := by decide +kernel
theorem e_path : pathF 2 64 0 3 = [(0, 2)] := by decide +kernel
theorem e_seam : smL 1 3 = [(1, 2), (2, 3)] := by decide +kernel
theorem e_in : inD 4 [e1, e2, e3] 2 3 = [nodS 4 e1 e2] := by
  unfold inD
  rw [if_neg (by decide), e_path]
  unfold rgL
  rw [List.map_cons, List.map_nil]
  unfold rgD
  rw [if_neg (by decide), rngD_cut (by decide) (by decide)]
  rfl
theorem e_cs : csD 4 [e1, e2, e3] 1 3 = [e2, e3] := by
  unfold csD
  rw [if_neg (by decide), e_seam]
  rfl

end Go.Proofs.YtbljofojeagdkaaDoor
namespace Go.Proofs.YtbljofojeagdkaaDoor
open Go.RowKit Go.BigFrame
set_option linter.unusedVariables false
set_option linter.unusedSimpArgs false

section
variable {P : Program}
theorem run_copy_rowN (w : World) (dT sT ty elem : TypeId) (sz g o dLen dCap : Nat) (a : Addr) (sLen sCap : Nat) (cur : Array Value) (t : TypeId) (cs : List Value)
    (hu : P.underlying dT = some (.slice elem)) (hs : (P.info? elem).map (·.size) = some sz)
    (hg : w.heap[g]? = some (.cells cur t (0, 0))) (hn : cs.length = Nat.min sLen dLen * sz)
    (hsrc : ∀ j v, cs[j]? = some v → w.cell? (a.add j) = some v) (hfit : o + cs.length ≤ cur.size) (h1 : ∀ v ∈ cs, v.oneCell' = true) :
    (Builtin.copy_ #[dT, sT] ty #[.slice (some ⟨g, o, none⟩) dLen dCap, .slice (some a) sLen sCap]).run P w =
      .ok (goInt (Nat.min sLen dLen)) (w.setRow g (cur.toList.take o ++ cs ++ cur.toList.drop (o + cs.length)).toArray) := by
  have hl := run_loadCells_list (P := P) w a cs hsrc
  have hst := run_storeCells_at P g o t cs 0 cur w hg (by simpa using hfit) h1
  cases hq : P.info? elem with
  | none => simp [hq] at hs
  | some i =>
    have hi : i.size = sz := by simpa [hq] using hs
    simp [Builtin.copy_, run_underlying hu, Builtin.lenOf, Builtin.firstCells, sizeOf, typeInfo, hq, hi, ← hn, hl, hst]
theorem run_copy_noneN (w : World) (dT sT ty elem : TypeId) (sz : Nat) (d a : Option Addr) (dLen dCap sLen sCap : Nat) (hu : P.underlying dT = some (.slice elem)) (hs : (P.info? elem).map (·.size) = some sz) (hn : Nat.min sLen dLen = 0) :
    (Builtin.copy_ #[dT, sT] ty #[.slice d dLen dCap, .slice a sLen sCap]).run P w = .ok (goInt 0) w := by
  cases hq : P.info? elem with
  | none => simp [hq] at hs
  | some i =>
    have hl : ∀ (x : Addr), (loadCells x 0).run P w = .ok #[] w := fun x => by simpa using run_loadCells_list (P := P) w x [] (by simp)
    cases d <;> cases a <;> simp [Builtin.copy_, run_underlying hu, Builtin.lenOf, Builtin.firstCells, sizeOf, typeInfo, hq, hn, storeCells, hl]
end

theorem wpList_copyD {ops : Array Oper} {rest : List Oper} {o : Oper} {a : Act} {w : World} {Q : Exit → Act → World → Prop} (hgd : o.guard = none) (d s : Operand)
    (ho : o.op = .call { callee := .builtin .copy, args := #[d, s], argTypes := #[25, 25] }) (v u r : Value) (w1 : World) (hd : a.eval d = v) (hs : a.eval s = u)
    (hrun : (Builtin.copy_ #[25, 25] o.type #[v, u]).run Tryd.prog w = .ok r w1) (hK : wpList Tryd.prog ops Q rest (a.put o.dst r) w1) :
    wpList Tryd.prog ops Q (o :: rest) a w := by
  refine wpList_plain hgd fun K hK' => ?_
  unfold Oper.wp execOp
  simp only [ho, resolve, invoke, builtin, Sem.run_bind, Sem.run_pure, Result.andThen_ok, List.map_toArray, List.map_cons, List.map_nil, hd, hs, hrun]
  exact hK' _ _ hK

/-- Digests copied into an owned row. -/
def cpD (full other : List (List Nat)) (n : Nat) : List (List Nat) := other.take (min other.length n) ++ full.drop (min other.length n)
theorem cpD_len {full other : List (List Nat)} {n : Nat} (hn : n ≤ full.length) : (cpD full other n).length = full.length := by
  unfold cpD
  rw [List.length_append, List.length_take, List.length_drop]
  omega
theorem cpD_dg {full other : List (List Nat)} {n : Nat} (h1 : ∀ d ∈ full, Dg d) (h2 : ∀ d ∈ other, Dg d) : ∀ d ∈ cpD full other n, Dg d := by
  intro d hd
  unfold cpD at hd
  rcases List.mem_append.1 hd with hd | hd
  · exact h2 d (List.mem_of_mem_take hd)
  · exact h1 d (List.mem_of_mem_drop hd)
theorem copyD_any (w : World) (base g n cap : Nat) (full other : List (List Nat)) (oa : Option Addr) (on oc : Nat) (ty : TypeId) (ho : w.ownsRow base 23 32 (.slice (some ⟨g, 0, none⟩) full.length cap) full.length (flatD full)) (hn : n ≤ full.length) (hr : RdD w (.slice oa on oc) other) (hd : ∀ d ∈ full, Dg d) :
    ∃ m w1, (Builtin.copy_ #[25, 25] ty #[.slice (some ⟨g, 0, none⟩) n cap, .slice oa on oc]).run Tryd.prog w = .ok (goInt m) w1 ∧ w1.ownsRow base 23 32 (.slice (some ⟨g, 0, none⟩) full.length cap) full.length (flatD (cpD full other n)) ∧ ∀ a : World, Kept [] a w → a.heap.size ≤ g → Kept [] a w1 := by
  have hsz : (Tryd.prog.info? 23).map (·.size) = some 32 := Tryd.size_dig
  have hon : other.length = on := hr.nlP
  subst hon
  by_cases hm : min other.length n = 0
  · refine ⟨0, w, run_copy_noneN w _ _ ty 23 32 _ _ _ _ _ _ Tryd.underlying25 hsz hm, ?_, fun a h _ => h⟩
    unfold cpD
    rw [hm, List.take_zero, List.drop_zero, List.nil_append]
    exact ho
  · rcases ho.2 with ⟨h9, _⟩ | ⟨g', cap', cur, e, hb, hg, hc1, hc2, hcs, htk⟩
    · simp at h9
    · simp only [Value.slice.injEq, Option.some.injEq, Addr.mk.injEq, and_true, true_and] at e
      obtain ⟨rfl, rfl⟩ := e
      obtain ⟨b, off, rfl, _⟩ := hr.range (by omega)
      have hdl : ∀ d ∈ other.take (min other.length n), d.length = 32 := fun d h => (hr.dg (List.mem_of_mem_take h)).1
      have hfl := flatD_len hdl
      rw [List.length_take, Nat.min_eq_left (Nat.min_le_left _ _)] at hfl
      have hsrc : ∀ j v, (flatD (other.take (min other.length n)))[j]? = some v → w.cell? ((⟨b, off, none⟩ : Addr).add j) = some v := by
        intro j v hv
        refine hr.news j v ?_
        rw [← List.take_append_drop (min other.length n) other, flatD_app, List.getElem?_append_left (by have := (List.getElem?_eq_some_iff.1 hv).1; exact this)]
        exact hv
      have hrun := run_copy_rowN (P := Tryd.prog) w 25 25 ty 23 32 g 0 n cap ⟨b, off, none⟩ other.length oc cur 23 (flatD (other.take (min other.length n))) Tryd.underlying25 hsz hg hfl hsrc (by rw [hfl, hcs]; omega) (flatD_one _)
      refine ⟨_, _, hrun, ⟨?_, Or.inr ⟨g, cap, _, rfl, hb, setRow_heap _ _ _ _ _ _ hg, hc1, hc2, ?_, ?_⟩⟩, fun a h hle => h.setRow (Or.inr hle) _⟩
      · rw [flatD_len (fun d h => (cpD_dg hd (fun d h => hr.dg h) d h).1), cpD_len hn]
      · simp only [List.take_zero, List.nil_append, Nat.zero_add, List.size_toArray, List.length_append, List.length_drop, Array.length_toList]
        rw [hfl, hcs]
        omega
      · simp only [List.take_zero, List.nil_append, Nat.zero_add]
        unfold cpD
        rw [flatD_app, List.take_append, hfl, List.take_of_length_le (by rw [hfl]; omega)]
        have h7 : List.take (full.length * 32 - min other.length n * 32) (cur.toList.drop (min other.length n * 32)) = flatD (full.drop (min other.length n)) := by
          rw [← List.drop_take, htk]
          have h6 : flatD full = flatD (full.take (min other.length n)) ++ flatD (full.drop (min other.length n)) := by rw [← flatD_app, List.take_append_drop]
          have h5 := flatD_len (ds := full.take (min other.length n)) (fun d h => (hd d (List.mem_of_mem_take h)).1)
          rw [List.length_take, Nat.min_eq_left (show min other.length n ≤ full.length by omega)] at h5
          rw [h6, List.drop_append, List.drop_of_length_le (by rw [h5]; exact Nat.le_refl _), List.nil_append, h5, Nat.sub_self, List.drop_zero]
        rw [h7]

set_option maxRecDepth 100000 in
set_option maxHeartbeats 1000000 in
theorem twinB_any (v : Value) (ds : List (List Nat)) (w : World) (hv : RdD w v ds) (hl : ds.length ≤ 2000000) :
    Calls Tryd.prog 7 #[v] w fun e w' => ∃ u, e = .returned u ∧ RdD w' u ds ∧ Kept [] w w' ∧ w'.ownsRow w.heap.size 23 32 u ds.length (flatD ds) := by
  have HV := hide hv
  obtain ⟨ao, len, cap, rfl, h1, h2, h3, h4, h5⟩ := hv
  subst h1
  clear h4 h5
  go_enter Tryd.func7, Tryd.ntmps7
  have HO := hide (World.ownsRow_made (base := w.heap.size) (e := 23) (size := 32) w #[] 0 (Nat.le_refl _) (by unfold maxLen; omega) (by simp))
  have HV1 := hide ((unhide HV).old ((Kept.refl [] w).alloc (.cells #[] 23)))
  go_wp2_with (at_builtin; refine wpList_appendD rfl (.tmp 3) (.tmp 4) rfl rfl _ w.heap.size (.slice (some ⟨w.heap.size, 0, none⟩) 0 0) [] ds ao ds.length cap (by exact unhide HO) (by exact unhide HV1) (by simp; omega) (by simp) rfl rfl ?_; intro ao1 cap1 w1 HO1 HG1; simp only [List.nil_append, List.length_nil, Nat.zero_add] at HO1; have HK1 := hide (((Kept.refl [] w).alloc _).grown (unhide HG1) (by intro k hk; right; simp [Value.ownBlock] at hk; omega)); clear HG1; simp only [List.length_nil, Nat.zero_add])
  go_ret
  exact ⟨_, rfl, rdd_owns (unhide HO1) (fun d hd => (unhide HV).dg hd), unhide HK1, unhide HO1⟩
end Go.Proofs.YtbljofojeagdkaaDoor
namespace Go.Proofs.YtbljofojeagdkaaDoor
open Go.RowKit Go.BigFrame
set_option linter.unusedVariables false
set_option linter.unusedSimpArgs false

set_option maxRecDepth 100000 in
set_option maxHeartbeats 1000000 in
/-- Lists that read alike are alike. -/
theorem same12_any (va vb : Value) (ds : List (List Nat)) (w : World) (ha : RdD w va ds) (hb : RdD w vb ds) :
    Calls Tryd.prog 14 #[va, vb] w fun e w' => e = .returned (.bool true) ∧ Kept [] w w' := by
  have HA := hide ha
  have HB := hide hb
  obtain ⟨aa, an, ac, rfl, a1, a2, a3, a4, a5⟩ := ha
  obtain ⟨ba, bn, bc, rfl, b1, b2, b3, b4, b5⟩ := hb
  subst a1
  subst b1
  clear a4 a5 b4 b5
  go_enter Tryd.func14, Tryd.ntmps14
  go_wp2_with fail
  go_loopw [13] (fun t13 wr => ∃ (i : Nat), i ≤ ds.length ∧ t13 = .int .i64 (i : Int) ∧ Hid (Kept [] w wr)) (fun t _ => ds.length - (intOf t).toNat)
  case atStart => exact ⟨0, Nat.zero_le _, rfl, hide (Kept.refl _ _)⟩
  case round =>
    obtain ⟨i, hi, rfl, HK⟩ := hrel
    by_cases hlt : i < ds.length
    · have hlt' : (i : Int) < (ds.length : Int) := by omega
      obtain ⟨b, o, rfl, hc⟩ := ((unhide HA).old (unhide HK)).range (by omega)
      obtain ⟨b', o', rfl, hc'⟩ := ((unhide HB).old (unhide HK)).range (by omega)
      have r1 := hc i hlt
      have r2 := hc' i hlt
      have hdg := (unhide HA).dg (d := ds.getD i []) (by rw [List.getD_eq_getElem?_getD, List.getElem?_eq_getElem hlt]; exact List.getElem_mem hlt)
      generalize ds.getD i [] = d at r1 r2 hdg
      have hdl := hdg.1
      have hq := fun W => dig_eq W d d hdl hdl
      rw [decide_eq_true rfl] at hq
      have ia : ¬ (i : Int) < 0 := by omega
      have ib : ¬ (ds.length : Int) ≤ i := by omega
      clear hc hc' hdg
      have hne : ∀ p : Prop, (∀ w', Kept [] wr w' → p) = p := fun p => propext ⟨fun h => h wr (Kept.refl [] wr), fun h _ _ => h⟩
      go_wp2_with fail
      refine wp_region_keep (by kernel_rfl) (by kernel_rfl) ?_
      iterate 3 (go_big_quiet_step (fail))
      refine wpQuiet_mid rfl 23 _ rfl b (o + i * 32) rfl (d.map u8) _ (fun w' hw' => range_kept r1 hw' (by simp)) Tryd.underlying23 rfl (by rw [List.length_map, hdl]; exact Tryd.size_dig) ?_
      simp only [Act.put, List.setIfInBounds_toArray, List.set_cons_succ, List.set_cons_zero]
      iterate 3 (go_big_quiet_step (fail))
      refine wpQuiet_mid rfl 23 _ rfl b' (o' + i * 32) rfl (d.map u8) _ (fun w' hw' => range_kept r2 hw' (by simp)) Tryd.underlying23 rfl (by rw [List.length_map, hdl]; exact Tryd.size_dig) ?_
      simp only [Act.put, List.setIfInBounds_toArray, List.set_cons_succ, List.set_cons_zero]
      refine wpQuiet_val rfl (.bool false) (fun w' _ => run_neq 23 _ _ _ rfl (d.map u8).toArray (d.map u8).toArray rfl rfl w' true (by kernel_rfl) (hq w')) ?_
      simp only [Act.put, List.setIfInBounds_toArray, List.set_cons_succ, List.set_cons_zero]
      refine wpQuiet_nil ?_
      intro w6 hw6
      have HK6 := hide ((unhide HK).trans hw6 (by simp))
      clear hw6 hne hq r1 r2
      go_wp2_with fail
      refine ⟨⟨i + 1, by omega, by simp, HK6⟩, ?_⟩
      simp [intOf]
      omega
    · have hlt' : ¬ (i : Int) < (ds.length : Int) := by omega
      go_wp2_with fail
      go_ret
      exact ⟨rfl, unhide HK⟩

end Go.Proofs.YtbljofojeagdkaaDoor
