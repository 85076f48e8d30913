import Derived.Test.YtbljofojeagdkaaDoorMSplit
import Derived.Test.YtbljofojeagdkaaDoorQMid
namespace Go.Proofs.YtbljofojeagdkaaDoor
open Go.RowKit Go.BigFrame
set_option linter.unusedVariables false
set_option linter.unusedSimpArgs false

theorem RdD.upto {w : World} {ao : Option Addr} {len cap : Nat} {ds : List (List Nat)} (h : RdD w (.slice ao len cap) ds) (k : Nat) (hk : k ≤ len) : RdD w (.slice ao k cap) (ds.take k) := by
  obtain ⟨ao', len', cap', e, h1, h2, h3, h4, h5⟩ := h
  cases e
  refine ⟨ao, k, cap, rfl, by rw [List.length_take]; omega, by omega, h3, fun d hd => h4 d (List.mem_of_mem_take hd), fun hp => ?_⟩
  obtain ⟨b, off, rfl, hc⟩ := h5 (by omega)
  refine ⟨b, off, rfl, fun i hi => ?_⟩
  rw [List.getD_eq_getElem?_getD, List.getElem?_take_of_lt hi, ← List.getD_eq_getElem?_getD]
  exact hc i (by omega)
theorem RdD.dg {w : World} {v : Value} {ds : List (List Nat)} (h : RdD w v ds) {d : List Nat} (hd : d ∈ ds) : Dg d := by
  obtain ⟨ao', len', cap', e, h1, h2, h3, h4, h5⟩ := h
  exact h4 d hd
/-- What stands ahead of the last, and that one. -/
theorem last_cut {ds : List (List Nat)} {x : List Nat} {r : List (List Nat)} (h : ds.reverse = x :: r) : ds = r.reverse ++ [x] ∧ ds.length = r.length + 1 := by
  have h2 := congrArg List.reverse h
  simp only [List.reverse_reverse, List.reverse_cons] at h2
  refine ⟨h2, ?_⟩
  rw [h2]; simp

theorem results_tmp_cell {P : Program} {fn : Func} {p q : Tmp} {ty : TypeId} (h : fn.results = #[.tmp q, .cell p ty]) (tmps : Array Value) (w : World) (g : Nat) (t : TypeId) (cs : Array Value) (fr : Nat × Nat) (d : TypeDesc)
    (hp : tmps.getD p undef = .pointer (some ⟨g, 0, none⟩)) (hg : w.heap[g]? = some (.cells cs t fr))
    (hu : P.underlying ty = some d) (hd : (match d with | .struct _ | .array _ _ => true | _ => false) = true) (hi : (P.info? ty).map (·.size) = some cs.size) (v : Value) (hq : tmps.getD q undef = v) :
    (results fn tmps).run P w = .ok (.tuple #[v, .agg cs]) w := by
  have hp' : tmps[p]?.getD undef = .pointer (some ⟨g, 0, none⟩) := by simpa using hp
  have hq' : tmps[q]?.getD undef = v := by simpa using hq
  simp [results, h, hp', hq', asAddr, run_loadVar_row w g t ty cs fr d hg hu hd hi]
theorem formedE_two {z : Int} {l m : List Nat} (hw : widthB z = true) (hl : formB z l = true) (hm : formB z m = true) : formedE z [l, m] = 0 := by simp [formedE, hw, hl, hm]

set_option maxRecDepth 100000 in
set_option maxHeartbeats 1000000 in
theorem parted_any (v : Value) (ds r : List (List Nat)) (x : List Nat) (w : World) (hv : RdD w v ds) (hr : ds.reverse = x :: r) :
    Calls Tryd.prog 43 #[v] w fun e w' => ∃ u, e = .returned (.tuple #[u, .agg (brow x)]) ∧ RdD w' u r.reverse ∧ Kept [] w w' := by
  obtain ⟨e1, e2⟩ := last_cut hr
  have HV := hide hv
  obtain ⟨ao, len, cap, rfl, h1, h2, h3, h4, h5⟩ := hv
  have hlen : len = r.length + 1 := by omega
  obtain ⟨b, off, rfl, hc⟩ := h5 (by omega)
  have HX := hide (unhide HV |>.dg (show x ∈ ds by rw [e1]; simp))
  have HRG := hide (by have := hc r.length (by omega); rwa [e1, List.getD_eq_getElem?_getD, List.getElem?_append_right (by simp), List.length_reverse, Nat.sub_self] at this : w.rangeAt b (off + r.length * 32) (x.map u8))
  have HU := hide (by have := (unhide HV).upto r.length (by omega); rwa [e1, List.take_append_of_le_length (by simp), List.take_of_length_le (by simp)] at this : RdD w (.slice (some ⟨b, off, none⟩) r.length cap) r.reverse)
  have hxl := (unhide HX).1
  clear hc h4 e1 hr h1 HV
  subst hlen
  go_enter Tryd.func43, Tryd.ntmps43
  go_wp2_with fail
  rw [zb32]
  have HGZ := hide (heap_alloc_new w (.cells (zb 32) 23))
  have HK0 := hide ((Kept.refl [] w).alloc (.cells (zb 32) 23))
  have HR2 := hide (range_kept (unhide HRG) (unhide HK0) (by simp))
  obtain ⟨W, hW⟩ : ∃ W, w.alloc (.cells (zb 32) 23) = W := ⟨_, rfl⟩
  rw [hW] at HGZ HK0 HR2 ⊢
  have HL := hide (by rw [List.length_map, hxl]; exact Tryd.size_dig : (Tryd.prog.info? 23).map (·.size) = some (x.map u8).length)
  have hcI : ((r.length : Int)) ≤ cap := by omega
  refine wp_quiet_tail 8 (by kernel_rfl) (by kernel_rfl) ?_
  simp only [List.take_succ_cons, List.take_zero, List.drop_succ_cons, List.drop_zero]
  repeat (go_big_quiet_step (fail))
  refine wpQuiet_mid rfl 23 _ rfl b (off + r.length * 32) rfl (x.map u8) _ (fun w' hw' => by obtain ⟨n, rfl⟩ := hw'; exact unhide HR2) Tryd.underlying23 rfl (unhide HL) ?_
  simp only [Act.put, List.setIfInBounds_toArray, List.set_cons_succ, List.set_cons_zero]
  repeat (go_big_quiet_step (fail))
  refine wpQuiet_nil ?_
  rintro _ ⟨n1, rfl⟩
  go_wp2_with (first
    | (refine wpList_store_row rfl 23 _ _ rfl w.heap.size (brow x) rfl rfl _ (zb 32) (unhide HGZ) (by rw [brow_size, hxl]; exact Tryd.size_dig) (by rw [zb_size, brow_size, hxl]) (brow_one _) ?_))
  have kk := ((unhide HK0).drewN n1).setRow (L := []) (g := w.heap.size) (Or.inr (Nat.le_refl _)) (brow x)
  refine bodyPost_ret (v := .tuple #[.slice (some ⟨b, off, none⟩) r.length cap, .agg (brow x)]) ?_ rfl ⟨_, rfl, (unhide HU).old kk, kk⟩
  exact results_tmp_cell (P := Tryd.prog) (by rfl) _ ((W.drewN n1).setRow w.heap.size (brow x)) w.heap.size _ (brow x) (0, 0) _ (by rfl) (setRow_heap (W.drewN n1) _ _ _ _ _ (unhide HGZ)) Tryd.underlying23 rfl (by rw [brow_size, hxl]; exact Tryd.size_dig) _ (by rfl)

set_option maxRecDepth 100000 in
set_option maxHeartbeats 1000000 in
theorem ended_any (v : Value) (ds r : List (List Nat)) (x : List Nat) (w : World) (hv : RdD w v ds) (hr : ds.reverse = x :: r) :
    Calls Tryd.prog 48 #[v] w fun e w' => ∃ u, e = .returned (.tuple #[u, .agg (brow x)]) ∧ RdD w' u r.reverse ∧ Kept [] w w' := by
  obtain ⟨e1, e2⟩ := last_cut hr
  have HV := hide hv
  obtain ⟨ao, len, cap, rfl, h1, h2, h3, h4, h5⟩ := hv
  have hlen : len = r.length + 1 := by omega
  obtain ⟨b, off, rfl, hc⟩ := h5 (by omega)
  have HX := hide (unhide HV |>.dg (show x ∈ ds by rw [e1]; simp))
  have HRG := hide (by have := hc r.length (by omega); rwa [e1, List.getD_eq_getElem?_getD, List.getElem?_append_right (by simp), List.length_reverse, Nat.sub_self] at this : w.rangeAt b (off + r.length * 32) (x.map u8))
  have HU := hide (by have := (unhide HV).upto r.length (by omega); rwa [e1, List.take_append_of_le_length (by simp), List.take_of_length_le (by simp)] at this : RdD w (.slice (some ⟨b, off, none⟩) r.length cap) r.reverse)
  have hxl := (unhide HX).1
  clear hc h4 e1 hr h1 HV
  subst hlen
  go_enter Tryd.func48, Tryd.ntmps48
  go_wp2_with fail
  rw [zb32]
  have HGZ := hide (heap_alloc_new w (.cells (zb 32) 23))
  have HK0 := hide ((Kept.refl [] w).alloc (.cells (zb 32) 23))
  have HR2 := hide (range_kept (unhide HRG) (unhide HK0) (by simp))
  obtain ⟨W, hW⟩ : ∃ W, w.alloc (.cells (zb 32) 23) = W := ⟨_, rfl⟩
  rw [hW] at HGZ HK0 HR2 ⊢
  have HL := hide (by rw [List.length_map, hxl]; exact Tryd.size_dig : (Tryd.prog.info? 23).map (·.size) = some (x.map u8).length)
  have hcI : ((r.length : Int)) ≤ cap := by omega
  refine wp_quiet_tail 8 (by kernel_rfl) (by kernel_rfl) ?_
  simp only [List.take_succ_cons, List.take_zero, List.drop_succ_cons, List.drop_zero]
  repeat (go_big_quiet_step (fail))
  refine wpQuiet_mid rfl 23 _ rfl b (off + r.length * 32) rfl (x.map u8) _ (fun w' hw' => by obtain ⟨n, rfl⟩ := hw'; exact unhide HR2) Tryd.underlying23 rfl (unhide HL) ?_
  simp only [Act.put, List.setIfInBounds_toArray, List.set_cons_succ, List.set_cons_zero]
  repeat (go_big_quiet_step (fail))
  refine wpQuiet_nil ?_
  rintro _ ⟨n1, rfl⟩
  go_wp2_with (first
    | (refine wpList_store_row rfl 23 _ _ rfl w.heap.size (brow x) rfl rfl _ (zb 32) (unhide HGZ) (by rw [brow_size, hxl]; exact Tryd.size_dig) (by rw [zb_size, brow_size, hxl]) (brow_one _) ?_))
  have kk := ((unhide HK0).drewN n1).setRow (L := []) (g := w.heap.size) (Or.inr (Nat.le_refl _)) (brow x)
  refine bodyPost_ret (v := .tuple #[.slice (some ⟨b, off, none⟩) r.length cap, .agg (brow x)]) ?_ rfl ⟨_, rfl, (unhide HU).old kk, kk⟩
  exact results_tmp_cell (P := Tryd.prog) (by rfl) _ ((W.drewN n1).setRow w.heap.size (brow x)) w.heap.size _ (brow x) (0, 0) _ (by rfl) (setRow_heap (W.drewN n1) _ _ _ _ _ (unhide HGZ)) Tryd.underlying23 rfl (by rw [brow_size, hxl]; exact Tryd.size_dig) _ (by rfl)

set_option maxRecDepth 100000 in
set_option maxHeartbeats 1000000 in
theorem over_bad (f : Nat) (z : Int) (l m : List Nat) (w : World) (hf : f ≠ 0) :
    Calls Tryd.prog 45 #[.int .i64 f, .int .i64 z, .agg (brow l), .agg (brow m)] w fun e w' => e = .returned (.tuple #[.agg (brow zD), .int .i64 f]) ∧ Kept [] w w' := by
  have hb : ((f : Int) != 0) = true := by simp; omega
  have HF := hide hf
  clear hf
  go_enter Tryd.func45, Tryd.ntmps45
  have HGZ := hide (alloc3_at w (.cells (brow l) 23) (.cells (brow m) 23) (.cells (zb 32) 23))
  have HK0 := hide ((((Kept.refl [] w).alloc (.cells (brow l) 23)).alloc (.cells (brow m) 23)).alloc (.cells (zb 32) 23))
  go_wp2_with (rw [zb32]; refine wpList_store_row rfl 23 _ _ rfl (w.heap.size + 1 + 1) (zb 32) rfl rfl _ (zb 32) (unhide HGZ) (by rw [zb_size]; exact Tryd.size_dig) rfl (brow_one _) ?_)
  refine bodyPost_ret (v := .tuple #[.agg (zb 32), .int .i64 f]) ?_ rfl ⟨rfl, (unhide HK0).setRow (Or.inr (by omega)) _⟩
  exact results_cell_tmp rfl _ _ (w.heap.size + 1 + 1) _ (zb 32) (0, 0) _ rfl (setRow_heap _ _ _ _ _ _ (unhide HGZ)) Tryd.underlying23 rfl (by rw [zb_size]; exact Tryd.size_dig) _ rfl

set_option maxRecDepth 100000 in
set_option maxHeartbeats 1000000 in
theorem over_ok (z : Int) (l m : List Nat) (w : World) (hz : -9223372036854775808 ≤ z ∧ z ≤ 9223372036854775807) (hw : widthB z = true) (hl : Dg l) (hm : Dg m) (hlf : formB z l = true) (hmf : formB z m = true) (hT : Tabs w) :
    Calls Tryd.prog 45 #[.int .i64 0, .int .i64 z, .agg (brow l), .agg (brow m)] w fun e w' => e = .returned (.tuple #[.agg (brow (nodS z l m)), .int .i64 0]) ∧ Kept [] w w' := by
  have HE := hide (by rw [formedE_two hw hlf hmf]; unfold nodS sunD; rw [if_pos rfl] : sunD (formedE z [l, m]) z (nodeB z l m) = nodS z l m)
  have HE2 := hide (by rw [formedE_two hw hlf hmf]; simp [sunE, sumE, hw] : sunE (formedE z [l, m]) z = 0)
  obtain ⟨D, hD⟩ : ∃ D, nodS z l m = D := ⟨_, rfl⟩
  have hcl : D.length = 32 := by rw [← hD]; exact (nodS_dg z l m).1
  rw [hD] at HE ⊢
  clear hD
  have HL := hide hl
  have HM := hide hm
  have HT := hide hT
  clear hl hm hT hlf hmf hw
  go_enter Tryd.func45, Tryd.ntmps45
  have HK0 := hide ((((Kept.refl [] w).alloc (.cells (brow l) 23)).alloc (.cells (brow m) 23)).alloc (.cells (zb 32) 23))
  have HGZ := hide (alloc3_at w (.cells (brow l) 23) (.cells (brow m) 23) (.cells (zb 32) 23))
  have HGM := hide (((Kept.refl [] ((w.alloc (.cells (brow l) 23)).alloc (.cells (brow m) 23))).alloc (.cells (zb 32) 23)).heap (alloc_at w (.cells (brow l) 23) (.cells (brow m) 23)) (by simp))
  have HGL := hide ((((Kept.refl [] (w.alloc (.cells (brow l) 23))).alloc (.cells (brow m) 23)).alloc (.cells (zb 32) 23)).heap (heap_alloc_new w (.cells (brow l) 23)) (by simp))
  have HSL := hide (by rw [List.length_map, (unhide HL).1]; exact Tryd.size_dig : (Tryd.prog.info? 23).map (·.size) = some (l.map u8).length)
  have HSM := hide (by rw [List.length_map, (unhide HM).1]; exact Tryd.size_dig : (Tryd.prog.info? 23).map (·.size) = some (m.map u8).length)
  go_wp2_with (first
    | (refine wpList_load_mid rfl 23 _ rfl w.heap.size 0 rfl (l.map u8) _ (range_row (unhide HGL)) Tryd.underlying23 rfl (unhide HSL) ?_)
    | (refine wpList_load_mid rfl 23 _ rfl (w.heap.size + 1) 0 rfl (m.map u8) _ (range_row (unhide HGM)) Tryd.underlying23 rfl (unhide HSM) ?_))
  refine Calls.mono (node_all z l m _ hz (unhide HL).1 (unhide HM).1 (unhide HL).2 (unhide HM).2 ((unhide HT).k (unhide HK0))) ?_
  rintro e w1 ⟨rfl, k1⟩
  rw [unhide HE, unhide HE2]
  have HZ2 := hide (k1.heap (unhide HGZ) (by simp))
  have HK2 := hide ((unhide HK0).trans k1 (by simp))
  clear k1 HGL HGM
  go_wp2_with (refine wpList_store_row rfl 23 _ _ rfl (w.heap.size + 1 + 1) (brow D) rfl rfl _ (zb 32) (unhide HZ2) (by rw [brow_size, hcl]; exact Tryd.size_dig) (by rw [zb_size, brow_size, hcl]) (brow_one _) ?_)
  refine bodyPost_ret (v := .tuple #[.agg (brow D), .int .i64 0]) ?_ rfl ⟨rfl, (unhide HK2).setRow (Or.inr (by omega)) _⟩
  exact results_cell_tmp rfl _ _ (w.heap.size + 1 + 1) _ (brow D) (0, 0) _ rfl (setRow_heap _ _ _ _ _ _ (unhide HZ2)) Tryd.underlying23 rfl (by rw [brow_size, hcl]; exact Tryd.size_dig) _ rfl

set_option maxRecDepth 100000 in
set_option maxHeartbeats 1000000 in
theorem refNode_any (k : Nat) (l m : List Nat) (w : World) (hk : 1 ≤ k ∧ k ≤ 32) (hl : Dg l) (hm : Dg m) :
    Calls Tryd.prog 50 #[.int .i64 k, .agg (brow l), .agg (brow m)] w fun e w' => e = .returned (.agg (brow (nodS k l m))) ∧ Kept [] w w' := by
  have HE := hide (by unfold nodS sumD; rw [if_pos (by simp [widthB]; omega), Int.toNat_natCast] : nodS (k : Int) l m = cutL k (hash (nodeB k l m)))
  obtain ⟨D, hD⟩ : ∃ D, nodS (k : Int) l m = D := ⟨_, rfl⟩
  have hcl : D.length = 32 := by rw [← hD]; exact (nodS_dg _ l m).1
  rw [hD] at HE ⊢
  clear hD
  have HL := hide hl
  have HM := hide hm
  clear hl hm
  go_enter Tryd.func50, Tryd.ntmps50
  have HK0 := hide ((((Kept.refl [] w).alloc (.cells (brow l) 23)).alloc (.cells (brow m) 23)).alloc (.cells (zb 32) 23))
  have HGZ := hide (alloc3_at w (.cells (brow l) 23) (.cells (brow m) 23) (.cells (zb 32) 23))
  have HGM := hide (((Kept.refl [] ((w.alloc (.cells (brow l) 23)).alloc (.cells (brow m) 23))).alloc (.cells (zb 32) 23)).heap (alloc_at w (.cells (brow l) 23) (.cells (brow m) 23)) (by simp))
  have HGL := hide ((((Kept.refl [] (w.alloc (.cells (brow l) 23))).alloc (.cells (brow m) 23)).alloc (.cells (zb 32) 23)).heap (heap_alloc_new w (.cells (brow l) 23)) (by simp))
  have HSL := hide (by rw [List.length_map, (unhide HL).1]; exact Tryd.size_dig : (Tryd.prog.info? 23).map (·.size) = some (l.map u8).length)
  have HSM := hide (by rw [List.length_map, (unhide HM).1]; exact Tryd.size_dig : (Tryd.prog.info? 23).map (·.size) = some (m.map u8).length)
  go_wp2_with (first
    | (refine wpList_load_mid rfl 23 _ rfl w.heap.size 0 rfl (l.map u8) _ (range_row (unhide HGL)) Tryd.underlying23 rfl (unhide HSL) ?_)
    | (refine wpList_load_mid rfl 23 _ rfl (w.heap.size + 1) 0 rfl (m.map u8) _ (range_row (unhide HGM)) Tryd.underlying23 rfl (unhide HSM) ?_))
  rw [zb32]
  refine Calls.mono (refNodeInput_any k l m _ hk (unhide HL).1 (unhide HM).1 (unhide HL).2 (unhide HM).2) ?_
  rintro e w1 ⟨v1, rfl, r1, k1⟩
  have HR1 := hide r1
  obtain ⟨a1, m1, c1, rfl, _⟩ := id r1
  have HZ1 := hide (k1.heap (unhide HGZ) (by simp))
  have HK1 := hide ((unhide HK0).trans k1 (by simp))
  clear k1 r1 HGL HGM
  go_wp2_with fail
  refine Calls.mono (refCut_any k _ (nodeB k l m) _ (unhide HR1) hk.2) ?_
  rintro e w2 ⟨rfl, k2⟩
  rw [← unhide HE]
  have HZ2 := hide (k2.heap (unhide HZ1) (by simp))
  have HK2 := hide ((unhide HK1).trans k2 (by simp))
  clear k2
  go_wp2_with (refine wpList_store_row rfl 23 _ _ rfl (w.heap.size + 1 + 1) (brow D) rfl rfl _ (zb 32) (unhide HZ2) (by rw [brow_size, hcl]; exact Tryd.size_dig) (by rw [zb_size, brow_size, hcl]) (brow_one _) ?_)
  refine bodyPost_ret (v := .agg (brow D)) ?_ rfl ⟨rfl, (unhide HK2).setRow (Or.inr (by omega)) _⟩
  exact results_cell_row rfl _ _ (w.heap.size + 1 + 1) _ (brow D) (0, 0) _ rfl (setRow_heap _ _ _ _ _ _ (unhide HZ2)) Tryd.underlying23 rfl (by rw [brow_size, hcl]; exact Tryd.size_dig)

theorem spl_of {n k : Nat} (h2 : 2 ≤ n) (j : Nat) (hk : k = 2 ^ j) (hlt : k < n) (hge : n ≤ 2 * k) : spl n = k := by
  subst hk
  unfold spl
  have : (n - 1).log2 = j := by
    have a1 : 2 ^ j ≤ n - 1 := by omega
    have a2 : n - 1 < 2 ^ (j + 1) := by rw [Nat.pow_succ]; omega
    exact (Nat.log2_eq_iff (by omega)).2 ⟨a1, a2⟩
  rw [this]

set_option maxRecDepth 100000 in
set_option maxHeartbeats 1000000 in
theorem refSplit_any (n : Nat) (w : World) (h2 : 2 ≤ n) (hn : n < 18446744073709551616) :
    Calls Tryd.prog 49 #[.int .u64 n] w fun e w' => e = .returned (.int .u64 (spl n)) ∧ Kept [] w w' := by
  obtain ⟨S, hS⟩ : ∃ S, spl n = S := ⟨_, rfl⟩
  rw [hS]
  have HS := hide hS
  clear hS
  go_enter Tryd.func49, Tryd.ntmps49
  go_wp2_with fail
  go_loopw [3] (fun t3 wr => ∃ (k : Nat), t3 = .int .u64 k ∧ Hid (∃ j, k = 2 ^ j) ∧ 1 ≤ k ∧ k < n ∧ Hid (Kept [] w wr)) (fun t _ => n - (intOf t).toNat)
  case atStart => exact ⟨1, rfl, hide ⟨0, rfl⟩, by omega, by omega, hide (Kept.refl _ _)⟩
  case round =>
    obtain ⟨k, rfl, HJ, hk1, hk2, HK⟩ := hrel
    have hn1 : (1 : Int) ≤ n := by omega
    by_cases hlt : k ≤ (n - 1) / 2
    · have hlt' : (k : Int) ≤ ((n : Int) - 1) / 2 := by omega
      have hq : (k : Int) * 2 ≤ 18446744073709551615 := by omega
      go_wp2
      refine ⟨⟨k * 2, by go_num, hide (by obtain ⟨j, rfl⟩ := unhide HJ; exact ⟨j + 1, by rw [Nat.pow_succ]⟩), by omega, by omega, HK⟩, ?_⟩
      simp [intOf]; omega
    · have hlt' : ¬ (k : Int) ≤ ((n : Int) - 1) / 2 := by omega
      have HE := hide (by obtain ⟨j, hj⟩ := unhide HJ; exact spl_of h2 j hj hk2 (by omega) : spl n = k)
      go_wp2
      go_ret
      exact ⟨by rw [← unhide HS, unhide HE]; rfl, unhide HK⟩
end Go.Proofs.YtbljofojeagdkaaDoor
