import Derived.Test.YtgnbigijpneebaaDoorBunD
import Derived.Test.YtgnbigijpneebaaDoorBunC
import Derived.Test.YtgnbigijpneebaaDoorBunA
import Derived.Deep.MidRow
namespace Go.Proofs.YtgnbigijpneebaaDoor
open Go.RowKit Go.BigFrame
set_option linter.unusedVariables false
set_option linter.unusedSimpArgs false

/-- The first k bytes of a digest, and noughts behind them. -/
def cutL (k : Nat) (d : List Nat) : List Nat := d.take k ++ List.replicate (32 - k) 0
theorem cutL_len (k : Nat) (d : List Nat) (hk : k ≤ 32) (hd : d.length = 32) : (cutL k d).length = 32 := by simp [cutL, hd]; omega
theorem cutL_byte (k : Nat) (d : List Nat) (hb : ∀ x ∈ d, x < 256) : ∀ x ∈ cutL k d, x < 256 := by
  intro x hx; simp only [cutL, List.mem_append, List.mem_replicate] at hx
  rcases hx with h | ⟨_, rfl⟩
  · exact hb x (List.mem_of_mem_take h)
  · decide
theorem Tryd.size_dig : (Tryd.prog.info? 26).map (·.size) = some 32 := by kernel_rfl

def widthB (z : Int) : Bool := decide (1 ≤ z ∧ z ≤ 32)

set_option maxRecDepth 100000 in
set_option maxHeartbeats 1000000 in
theorem isWidth_any (z : Int) (w : World) (hz : -9223372036854775808 ≤ z ∧ z ≤ 9223372036854775807) :
    Calls Tryd.prog 60 #[.int .i64 z] w fun e w' => e = .returned (.bool (widthB z)) ∧ w' = w := by
  by_cases h1 : 1 ≤ z
  · by_cases h2 : z ≤ 32
    · have hw : widthB z = true := by simp [widthB, h1, h2]
      rw [hw]
      clear hw
      go_enter Tryd.func60, Tryd.ntmps60
      go_wp2
      go_ret
      exact ⟨rfl, rfl⟩
    · have hw : widthB z = false := by simp [widthB, h2]
      rw [hw]
      clear hw
      go_enter Tryd.func60, Tryd.ntmps60
      go_wp2
      go_ret
      exact ⟨rfl, rfl⟩
  · have hw : widthB z = false := by simp [widthB, h1]
    rw [hw]
    clear hw
    go_enter Tryd.func60, Tryd.ntmps60
    go_wp2
    go_ret
    exact ⟨rfl, rfl⟩

set_option maxRecDepth 100000 in
set_option maxHeartbeats 1000000 in
theorem cut_any (k : Nat) (d : List Nat) (w : World) (h1 : 1 ≤ k) (h2 : k ≤ 32) (hd : d.length = 32) (hb : ∀ x ∈ d, x < 256) :
    Calls Tryd.prog 63 #[.int .i64 k, .agg (brow d)] w fun e w' => e = .returned (.agg (brow (cutL k d))) ∧ Kept [] w w' := by
  have HB := hide hb
  clear hb
  go_enter Tryd.func63, Tryd.ntmps63
  go_wp2_with fail
  rw [zb32]
  have HA := hide (heap_alloc3 w (.cells (brow d) 26) (.cells (zb 32) 26) (.cells (zb 32) 26))
  have HK := hide ((((Kept.refl [] w).alloc (.cells (brow d) 26)).alloc (.cells (zb 32) 26)).alloc (.cells (zb 32) 26))
  obtain ⟨W, hW⟩ : ∃ W, ((w.alloc (.cells (brow d) 26)).alloc (.cells (zb 32) 26)).alloc (.cells (zb 32) 26) = W := ⟨_, rfl⟩
  rw [hW] at HA HK ⊢
  clear hW
  have hcp : ∀ n, (Builtin.copy_ #[24, 24] 3 #[.slice (some ⟨w.heap.size + 1 + 1, 0, none⟩) k 32, .slice (some ⟨w.heap.size, 0, none⟩) 32 32]).run Tryd.prog (W.drewN n) = .ok (goInt k) ((W.drewN n).setRow (w.heap.size + 1 + 1) (brow (cutL k d))) := fun n => by
    have hcs : ((d.take k).map u8).length = k := by simp [hd]; omega
    have h9 := run_copy_row (P := Tryd.prog) (W.drewN n) 24 24 3 5 (w.heap.size + 1 + 1) 0 k 32 ⟨w.heap.size, 0, none⟩ 32 32 (zb 32) 26 ((d.take k).map u8) Tryd.underlying24 Tryd.size5 (unhide HA).2.2 (by rw [hcs]; exact (Nat.min_eq_right h2).symm)
      (fun j v hv => by
        have hj := (List.getElem?_eq_some_iff.1 hv).1
        rw [hcs] at hj
        have hc := brow_cell (w := W.drewN n) (unhide HA).1 j (by omega)
        rw [Addr.add_mid, Nat.zero_add, hc, ← hv, List.getElem?_map, List.getElem?_take, if_pos hj, List.getD_eq_getElem?_getD, List.getElem?_eq_getElem (show j < d.length by omega)]; rfl) (by rw [hcs, zb_size]; omega) (u8_oneCell _)
    rw [hcs] at h9
    rw [h9]
    congr 2
    have hz : (zb 32).toList = List.replicate 32 (u8 0) := by unfold zb brow; rw [List.map_replicate]
    rw [hz, List.take_zero, List.nil_append, Nat.zero_add, List.drop_replicate]
    unfold cutL brow
    rw [List.map_append, List.map_replicate]
  have hkI : (k : Int) ≤ 32 := by omega
  refine wp_quiet_tail 3 (by kernel_rfl) (by kernel_rfl) ?_
  simp only [List.take_succ_cons, List.take_zero, List.drop_succ_cons, List.drop_zero]
  repeat (go_big_quiet_step (fail))
  refine wpQuiet_nil ?_
  intro _ hw'
  obtain ⟨n1, hw''⟩ := hw'
  subst hw''
  have hcl := cutL_len k d h2 hd
  have HR := hide (setRow_heap (W.drewN n1) (w.heap.size + 1 + 1) (zb 32) (brow (cutL k d)) 26 (0, 0) (unhide HA).2.2)
  have HZ := hide ((setRow_other (W.drewN n1) (w.heap.size + 1 + 1) (w.heap.size + 1) (brow (cutL k d)) (by omega)).trans (unhide HA).2.1)
  have HKK := hide (((unhide HK).drewN n1).setRow (g := w.heap.size + 1 + 1) (Or.inr (by omega)) (brow (cutL k d)))
  go_wp2_with (first
    | (refine wpList_load_row rfl 26 _ rfl (w.heap.size + 1 + 1) rfl _ (brow (cutL k d)) (0, 0) _ (unhide HR) Tryd.underlying26 rfl (by rw [brow_size, hcl]; exact Tryd.size_dig) ?_)
    | (refine wpList_store_row rfl 26 _ _ rfl (w.heap.size + 1) (brow (cutL k d)) rfl rfl _ (zb 32) (unhide HZ) (by rw [brow_size, hcl]; exact Tryd.size_dig) (by rw [zb_size, brow_size, hcl]) (brow_one _) ?_))
  refine bodyPost_ret (v := .agg (brow (cutL k d))) ?_ rfl ⟨rfl, (unhide HKK).setRow (Or.inr (by omega)) _⟩
  exact results_cell_row rfl _ _ (w.heap.size + 1) _ (brow (cutL k d)) (0, 0) _ rfl (setRow_heap _ _ _ _ _ _ (unhide HZ)) Tryd.underlying26 rfl (by rw [brow_size, hcl]; exact Tryd.size_dig)

theorem eqItems_dig (P : Program) (w : World) (he : P.plainKey 5 = true) (hu : P.underlying 5 = some (.int .u8)) (d : Nat) (a b : List Nat) (n : Nat) (ha : a.length = n) (hb : b.length = n) :
    ∀ k s, s + k = n → (Op.eqItems (d + 1) 5 1 (brow a) (brow b) (List.range' s k)).run P w = .ok (decide (a.drop s = b.drop s)) w
  | 0, s, h => by
    have : a.drop s = b.drop s := by rw [List.drop_eq_nil_of_le (by omega), List.drop_eq_nil_of_le (by omega)]
    simp [Op.eqItems, this]
  | k + 1, s, h => by
    rw [List.range'_succ]
    simp only [Op.eqItems, Sem.run_bind, Nat.mul_one]
    rw [run_part_plain w he (brow_get a s (by omega)), Result.andThen_ok, run_part_plain w he (brow_get b s (by omega)), Result.andThen_ok]
    simp only [u8]
    rw [run_equalIn_int w d 5 _ _ _ _ hu, Result.andThen_ok]
    have hdd : decide (a.drop s = b.drop s) = (decide (a.getD s 0 = b.getD s 0) && decide (a.drop (s + 1) = b.drop (s + 1))) := by
      rw [List.drop_eq_getElem_cons (show s < a.length by omega), List.drop_eq_getElem_cons (show s < b.length by omega), List.getD_eq_getElem?_getD, List.getD_eq_getElem?_getD, List.getElem?_eq_getElem (show s < a.length by omega), List.getElem?_eq_getElem (show s < b.length by omega)]
      simp only [List.cons.injEq, Bool.decide_and, Option.getD_some]
    rw [hdd]
    by_cases e : a.getD s 0 = b.getD s 0
    · rw [e]
      simp only [beq_self_eq_true, Bool.not_true, Bool.false_eq_true, if_false]
      rw [eqItems_dig P w he hu d a b n ha hb k (s + 1) (by omega)]
      simp
    · have : ((a.getD s 0 : Int) == (b.getD s 0 : Int)) = false := by rw [beq_eq_false_iff_ne]; omega
      rw [this, decide_eq_false e]
      simp only [Bool.false_and, Bool.not_false, if_true, Sem.run_pure]
theorem dig_eq (w : World) (a b : List Nat) (ha : a.length = 32) (hb : b.length = 32) : (Op.equalIn 10000 26 (.agg (brow a)) (.agg (brow b))).run Tryd.prog w = .ok (decide (a = b)) w := by
  obtain ⟨i, hi, _⟩ := Option.map_eq_some_iff.1 Tryd.info5
  rw [run_equalIn_array w 9999 _ _ Tryd.underlying26 hi, List.range_eq_range', show Tryd.prog.cellsOf 5 = 1 from by kernel_rfl]
  exact eqItems_dig Tryd.prog w (by unfold Program.plainKey; rw [Tryd.underlying5]) Tryd.underlying5 9998 a b 32 ha hb 32 0 rfl

/-- Is d a digest of the width z? -/
def formB (z : Int) (d : List Nat) : Bool := widthB z && decide (cutL z.toNat d = d)

set_option maxRecDepth 100000 in
set_option maxHeartbeats 1000000 in
theorem form_any (z : Int) (d : List Nat) (w : World) (hz : -9223372036854775808 ≤ z ∧ z ≤ 9223372036854775807) (hd : d.length = 32) (hb : ∀ x ∈ d, x < 256) :
    Calls Tryd.prog 91 #[.int .i64 z, .agg (brow d)] w fun e w' => e = .returned (.bool (formB z d)) ∧ Kept [] w w' := by
  have HB := hide hb
  clear hb
  go_enter Tryd.func91, Tryd.ntmps91
  go_wp2_with fail
  have HA := hide (heap_alloc_new w (.cells (brow d) 26))
  have HK := hide ((Kept.refl [] w).alloc (.cells (brow d) 26))
  obtain ⟨W, hW⟩ : ∃ W, w.alloc (.cells (brow d) 26) = W := ⟨_, rfl⟩
  rw [hW] at HA HK ⊢
  clear hW
  have hne : ∀ p : Prop, (∀ w', Kept [] W w' → p) = p := fun p => propext ⟨fun h => h W (Kept.refl [] W), fun h _ _ => h⟩
  have HZZ := hide (by rw [brow_size, hd]; exact Tryd.size_dig : (Tryd.prog.info? 26).map (·.size) = some (brow d).size)
  have HIW := hide (fun w' (hw' : Kept [] W w') => (isWidth_any z w' hz).mono (fun e w2 (h2 : _ ∧ _) => (⟨h2.1, by rw [h2.2]; exact hw'⟩ : _ ∧ Kept [] W w2)))
  by_cases hw : widthB z = true
  · have HF := hide (by unfold formB; rw [hw, Bool.true_and] : formB z d = decide (cutL z.toNat d = d))
    rw [hw] at HIW
    obtain ⟨hz1, hz2⟩ : 1 ≤ z ∧ z ≤ 32 := by simpa [widthB] using hw
    obtain ⟨k, rfl⟩ : ∃ k : Nat, z = k := ⟨z.toNat, by omega⟩
    have HCT := hide (fun w' (hw' : Kept [] W w') => (cut_any k d w' (by omega) (by omega) hd (unhide HB)).mono (fun e w2 (h2 : _ ∧ _) => (⟨h2.1, hw'.trans h2.2 (by simp)⟩ : _ ∧ Kept [] W w2)))
    have hcl := cutL_len k d (by omega) hd
    rw [Int.toNat_natCast] at HF
    obtain ⟨C, hC⟩ : ∃ C, cutL k d = C := ⟨_, rfl⟩
    rw [hC] at HCT hcl HF
    have HE := hide (fun W => dig_eq W C d hcl hd)
    obtain ⟨q, hq⟩ : ∃ q : Bool, decide (C = d) = q := ⟨_, rfl⟩
    rw [hq] at HE HF
    clear hC hq hw
    refine wp_region_keep (by kernel_rfl) (by kernel_rfl) ?_
    go_big_quiet_step (fail)
    go_big_quiet_want
    go_big_quiet_op
    apply Exists.intro
    refine ⟨fun w' hw' => ?_, ?_⟩
    · exact unhide HIW w' hw'
    go_big_quiet_on
    go_big_quiet_step (fail)
    go_big_quiet_step (fail)
    refine wpQuiet_row rfl 26 (.tmp 3) rfl w.heap.size rfl _ (brow d) (0, 0) _ (fun w' hw' => hw'.heap (unhide HA) (by simp)) Tryd.underlying26 rfl (unhide HZZ) ?_
    simp only [Act.put, List.setIfInBounds_toArray, List.set_cons_succ, List.set_cons_zero]
    go_big_quiet_want
    go_big_quiet_op
    apply Exists.intro
    refine ⟨fun w' hw' => ?_, ?_⟩
    · exact unhide HCT w' hw'
    go_big_quiet_on
    refine wpQuiet_row rfl 26 (.tmp 3) rfl w.heap.size rfl _ (brow d) (0, 0) _ (fun w' hw' => hw'.heap (unhide HA) (by simp)) Tryd.underlying26 rfl (unhide HZZ) ?_
    simp only [Act.put, List.setIfInBounds_toArray, List.set_cons_succ, List.set_cons_zero]
    refine wpQuiet_val rfl (.bool q) (fun w' _ => run_eql 26 (.tmp 10) (.tmp 11) 26 rfl (brow C) (brow d) rfl rfl w' q (by kernel_rfl) (unhide HE w')) ?_
    simp only [Act.put, List.setIfInBounds_toArray, List.set_cons_succ, List.set_cons_zero]
    repeat (go_big_quiet_step (fail))
    refine wpQuiet_nil ?_
    intro w5 hw5
    have HK5 := hide ((unhide HK).trans hw5 (by simp))
    clear hw5 hne
    go_wp2
    go_ret
    exact ⟨by rw [unhide HF]; rfl, unhide HK5⟩
  · have hwf : widthB z = false := by simpa using hw
    have HF := hide (by unfold formB; rw [hwf, Bool.false_and] : formB z d = false)
    rw [hwf] at HIW
    clear hw hwf
    refine wp_region_keep (by kernel_rfl) (by kernel_rfl) ?_
    go_big_quiet_step (fail)
    go_big_quiet_want
    go_big_quiet_op
    apply Exists.intro
    refine ⟨fun w' hw' => ?_, ?_⟩
    · exact unhide HIW w' hw'
    go_big_quiet_on
    repeat (go_big_quiet_step (fail))
    refine wpQuiet_nil ?_
    intro w5 hw5
    have HK5 := hide ((unhide HK).trans hw5 (by simp))
    clear hw5 hne
    go_wp2
    go_ret
    exact ⟨by rw [unhide HF]; rfl, unhide HK5⟩
end Go.Proofs.YtgnbigijpneebaaDoor
namespace Go.Proofs.YtgnbigijpneebaaDoor
open Go.RowKit Go.BigFrame
set_option linter.unusedVariables false
set_option linter.unusedSimpArgs false

/-- The slice value v reads as the lists of bytes ps. -/
def RdL (w : World) (v : Value) (ps : List (List Nat)) : Prop :=
  ∃ (ao : Option Addr) (len cap : Nat) (vs : List Value), v = .slice ao len cap ∧ vs.length = len ∧ ps.length = len ∧ len ≤ cap ∧ cap ≤ 9223372036854775807 ∧
    (0 < len → ∃ b off, ao = some ⟨b, off, none⟩ ∧ ∀ i, i < len → w.cell? ⟨b, off + i, none⟩ = some (vs.getD i undef)) ∧ ∀ i, i < len → Rd w (vs.getD i undef) (ps.getD i [])
theorem RdL.old {w0 w : World} {v : Value} {ps : List (List Nat)} (h : RdL w0 v ps) (k : Kept [] w0 w) : RdL w v ps := by
  obtain ⟨ao, len, cap, vs, rfl, h1, h2, h3, h4, h5, h6⟩ := h
  refine ⟨ao, len, cap, vs, rfl, h1, h2, h3, h4, fun hp => ?_, fun i hi => (h6 i hi).old k (by simp)⟩
  obtain ⟨b, off, rfl, hc⟩ := h5 hp
  exact ⟨b, off, rfl, fun i hi => k.cell (hc i hi) (by simp)⟩
theorem Tabs.k {w w' : World} (h : Tabs w) (k : Kept [] w w') : Tabs w' := h.kept k (by simp) (by simp)
theorem flat_snoc (ps : List (List Nat)) (i : Nat) (h : i < ps.length) : (ps.take (i + 1)).flatten = (ps.take i).flatten ++ ps.getD i [] := by
  rw [List.take_succ_eq_append_getElem h, List.flatten_append, List.getD_eq_getElem?_getD, List.getElem?_eq_getElem h]; simp
theorem flat_le (ps : List (List Nat)) (i : Nat) : (ps.take i).flatten.length ≤ ps.flatten.length := by
  conv => rhs; rw [← List.take_append_drop i ps, List.flatten_append, List.length_append]
  omega

theorem hash_byte (p : List Nat) : ∀ x ∈ hash p, x < 256 := by
  intro x hx
  unfold hash dig at hx
  obtain ⟨y, _, hy⟩ := List.mem_flatMap.1 hx
  simp only [bytes4, List.mem_cons, List.not_mem_nil, or_false] at hy
  rcases hy with rfl | rfl | rfl | rfl <;> exact Nat.mod_lt _ (by decide)

theorem results_cell_tmp {P : Program} {fn : Func} {p q : Tmp} {ty : TypeId} (h : fn.results = #[.cell p ty, .tmp q]) (tmps : Array Value) (w : World) (g : Nat) (t : TypeId) (cs : Array Value) (fr : Nat × Nat) (d : TypeDesc)
    (hp : tmps.getD p undef = .pointer (some ⟨g, 0, none⟩)) (hg : w.heap[g]? = some (.cells cs t fr))
    (hu : P.underlying ty = some d) (hd : (match d with | .struct _ | .array _ _ => true | _ => false) = true) (hi : (P.info? ty).map (·.size) = some cs.size) (v : Value) (hq : tmps.getD q undef = v) :
    (results fn tmps).run P w = .ok (.tuple #[.agg cs, v]) w := by
  have hp' : tmps[p]?.getD undef = .pointer (some ⟨g, 0, none⟩) := by simpa using hp
  have hq' : tmps[q]?.getD undef = v := by simpa using hq
  simp [results, h, hp', hq', asAddr, run_loadVar_row w g t ty cs fr d hg hu hd hi]

set_option maxRecDepth 100000 in
set_option maxHeartbeats 1000000 in
theorem dsum_any (z : Int) (v : Value) (ps : List (List Nat)) (w : World) (hz : -9223372036854775808 ≤ z ∧ z ≤ 9223372036854775807) (hv : RdL w v ps) (hl : ps.flatten.length ≤ 140737488355328) (hT : Tabs w) (hw : widthB z = true) :
    Calls Tryd.prog 23 #[.int .i64 z, v] w fun e w' => e = .returned (.tuple #[.agg (brow (cutL z.toNat (hash ps.flatten))), .int .i64 0]) ∧ Kept [] w w' := by
  have HT := hide hT
  have HV := hide (fun W (k : Kept [] w W) => hv.old k)
  have h2 := hT.two
  have HBL := hide (fun i (hi : i < ps.length) => by
    obtain ⟨ao, len, cap, vs, rfl, h1, h2', h3, h4, h5, h6⟩ := hv
    exact ⟨vs, h6 i (by omega)⟩ : ∀ i, i < ps.length → ∃ vs : List Value, Rd w (vs.getD i undef) (ps.getD i []))
  obtain ⟨ao, len, cap, vs, rfl, h1, h2', h3, h4, h5, h6⟩ := hv
  have H5 := hide h5
  have H6 := hide h6
  obtain ⟨hz1, hz2⟩ : 1 ≤ z ∧ z ≤ 32 := by simpa [widthB] using hw
  obtain ⟨k, rfl⟩ : ∃ k : Nat, z = k := ⟨z.toNat, by omega⟩
  clear hT h5 h6 HBL
  go_enter Tryd.func23, Tryd.ntmps23
  go_wp2_with fail
  refine Calls.mono (isWidth_any k _ hz) ?_
  rintro e w1 ⟨rfl, rfl⟩
  rw [hw]
  go_wp2_with fail
  rw [zb32]
  refine Calls.mono (snew_any _) ?_
  rintro e w2 ⟨rfl, s2, k2⟩
  have HS2 := hide s2
  have HZ2 := hide (k2.heap (heap_alloc_new w (.cells (zb 32) 26)) (by simp))
  have HK2 := hide (((Kept.refl [] w).alloc (.cells (zb 32) 26)).trans k2 (by simp))
  obtain ⟨g, hg⟩ : ∃ g, (w.alloc (.cells (zb 32) 26)).heap.size = g := ⟨_, rfl⟩
  rw [hg] at HS2 ⊢
  have Hg := hide (by simp at hg; omega : g = w.heap.size + 1)
  clear s2 k2 hg
  subst h2'
  go_wp2_with fail
  go_loopw [16] (fun t16 wr => ∃ (i : Nat), i ≤ ps.length ∧ t16 = .int .i64 i ∧ Hid (St wr g (ps.take i).flatten) ∧ Hid (wr.heap[w.heap.size]? = some (.cells (zb 32) 26 (0, 0))) ∧ Hid (Kept [] w wr)) (fun t _ => ps.length - (intOf t).toNat)
  case atStart => exact ⟨0, Nat.zero_le _, rfl, HS2, HZ2, HK2⟩
  case round =>
    clear HS2 HZ2 HK2
    obtain ⟨i, hi, rfl, HS, HZ, HK⟩ := hrel
    by_cases hlt : i < ps.length
    · have hlt' : (i : Int) < ps.length := by omega
      obtain ⟨b, o, rfl, hcell⟩ := unhide H5 (by omega)
      have ci := (unhide HK).cell (hcell i hlt) (by simp)
      have HR0 := hide (unhide H6 i hlt)
      have HR := hide ((unhide HR0).old (unhide HK) (by simp))
      have HFS := hide (flat_snoc ps i hlt)
      have HFL := hide (flat_le ps (i + 1))
      have HBk := hide (fun (h0 : 0 < (ps.getD i []).length) => by
        obtain ⟨a1, l1, c1, he, hll, _⟩ := id (unhide HR0)
        rw [he]
        intro hm
        have h9 := Rd.blk_lt (n' := l1) (c' := c1) (by rw [← he]; exact unhide HR0) h0 g hm
        have := unhide Hg
        omega : 0 < (ps.getD i []).length → g ∉ blk (vs.getD i undef))
      clear hcell
      generalize vs.getD i undef = vi at ci HR0 HR HBk
      generalize ps.getD i [] = pi at HR0 HR HBk HFS
      go_wp2_with fail
      refine Calls.mono (write_any g _ vi pi wr (unhide HS) (unhide HR) (unhide HBk) (by have := unhide Hg; omega) (by have h8 := unhide HFL; rw [unhide HFS, List.length_append] at h8; omega) ((unhide HT).k (unhide HK))) ?_
      rintro e w4 ⟨rfl, s4, k4⟩
      rw [← unhide HFS] at s4
      have HS4 := hide s4
      have HZ4 := hide (k4.heap (unhide HZ) (by have := unhide Hg; simp; omega))
      have HK4 := hide ((unhide HK).trans k4 (by have := unhide Hg; simp; omega))
      clear s4 k4
      go_wp2
      go_roundw
      case rel => exact ⟨i + 1, by omega, by go_num, HS4, HZ4, HK4⟩
      case measure => simp [intOf]; omega
    · have hlt' : ¬ (i : Int) < ps.length := by omega
      have hie : i = ps.length := by omega
      subst hie
      rw [List.take_length] at HS
      go_wp2_with fail
      refine Calls.mono (ssum_any g ps.flatten wr (unhide HS) (by omega) ((unhide HT).k (unhide HK))) ?_
      rintro e w5 ⟨rfl, k5⟩
      have HZ5 := hide (k5.heap (unhide HZ) (by simp))
      have HK5 := hide ((unhide HK).trans k5 (by simp))
      clear k5
      have hhl := hash_len ps.flatten
      have HHb := hide (hash_byte ps.flatten)
      go_wp2_with fail
      refine Calls.mono (cut_any k (hash ps.flatten) w5 (by omega) (by omega) hhl (unhide HHb)) ?_
      rintro e w6 ⟨rfl, k6⟩
      have HZ6 := hide (k6.heap (unhide HZ5) (by simp))
      have HK6 := hide ((unhide HK5).trans k6 (by simp))
      clear k6
      have hcl := cutL_len k (hash ps.flatten) (by omega) hhl
      go_wp2_with (refine wpList_store_row rfl 26 _ _ rfl w.heap.size (brow (cutL k (hash ps.flatten))) rfl rfl _ (zb 32) (unhide HZ6) (by rw [brow_size, hcl]; exact Tryd.size_dig) (by rw [zb_size, brow_size, hcl]) (brow_one _) ?_)
      refine bodyPost_ret (v := .tuple #[.agg (brow (cutL k (hash ps.flatten))), .int .i64 0]) ?_ rfl ⟨by rw [Int.toNat_natCast], (unhide HK6).setRow (by simp) _⟩
      exact results_cell_tmp rfl _ _ w.heap.size _ (brow (cutL k (hash ps.flatten))) (0, 0) _ rfl (setRow_heap _ _ _ _ _ _ (unhide HZ6)) Tryd.underlying26 rfl (by rw [brow_size, hcl]; exact Tryd.size_dig) _ rfl

set_option maxRecDepth 100000 in
set_option maxHeartbeats 1000000 in
theorem dsum_bad (z : Int) (v : Value) (w : World) (hz : -9223372036854775808 ≤ z ∧ z ≤ 9223372036854775807) (hw : widthB z = false) :
    Calls Tryd.prog 23 #[.int .i64 z, v] w fun e w' => e = .returned (.tuple #[.agg (zb 32), .int .i64 1]) ∧ Kept [] w w' := by
  go_enter Tryd.func23, Tryd.ntmps23
  go_wp2_with fail
  refine Calls.mono (isWidth_any z _ hz) ?_
  rintro e w1 ⟨rfl, rfl⟩
  rw [hw]
  go_wp2_with (rw [zb32]; refine wpList_store_row rfl 26 _ _ rfl w.heap.size (zb 32) rfl rfl _ (zb 32) (heap_alloc_new _ _) (by rw [zb_size]; exact Tryd.size_dig) rfl (brow_one _) ?_)
  refine bodyPost_ret (v := .tuple #[.agg (zb 32), .int .i64 1]) ?_ rfl ⟨rfl, ((Kept.refl [] w).alloc _).setRow (by simp) _⟩
  exact results_cell_tmp rfl _ _ w.heap.size _ (zb 32) (0, 0) _ rfl (setRow_heap _ _ _ _ _ _ (heap_alloc_new _ _)) Tryd.underlying26 rfl (by rw [zb_size]; exact Tryd.size_dig) _ rfl
end Go.Proofs.YtgnbigijpneebaaDoor
namespace Go.Proofs.YtgnbigijpneebaaDoor
open Go.RowKit
set_option linter.unusedVariables false
set_option linter.unusedSimpArgs false

theorem WrAt.new (w : World) : WrAt (w.alloc (.cells #[.slice none 0 0] 103)) w.heap.size (.slice none 0 0) [] :=
  ⟨heap_alloc_new w _, World.ownsRow_nil _ _ _ _, by simp⟩

set_option maxRecDepth 100000 in
theorem wu8_any (b : Nat) (v : Value) (bs : List Nat) (x : Nat) (w : World) (hw : WrAt w b v bs) (hx : x < 256) (hl : bs.length + 8 ≤ 140737488355328) :
    Calls Tryd.prog 72 #[.pointer (some ⟨b, 0, none⟩), .int .u8 x] w fun e w' => e = .returned (.tuple #[]) ∧ ∃ v', WrAt w' b v' (bs ++ wide x 1) ∧ Grew b v v' w w' := by
  have HW := hide hw
  clear hw
  go_enter Tryd.func72, Tryd.ntmps72
  go_wp2_with (go_at_call 92; go_must (refine (wnumber_any b v bs x 1 _ (unhide HW) (by omega) hl).mono ?_; rintro e w1 ⟨rfl, hk⟩; have HK := hide hk; clear hk))
  go_end0
  exact ⟨rfl, unhide HK⟩

set_option maxRecDepth 100000 in
theorem wu64_any (b : Nat) (v : Value) (bs : List Nat) (x : Nat) (w : World) (hw : WrAt w b v bs) (hl : bs.length + 8 ≤ 140737488355328) :
    Calls Tryd.prog 73 #[.pointer (some ⟨b, 0, none⟩), .int .u64 x] w fun e w' => e = .returned (.tuple #[]) ∧ ∃ v', WrAt w' b v' (bs ++ wide x 8) ∧ Grew b v v' w w' := by
  have HW := hide hw
  clear hw
  go_enter Tryd.func73, Tryd.ntmps73
  go_wp2_with (go_at_call 92; go_must (refine (wnumber_any b v bs x 8 _ (unhide HW) (by omega) hl).mono ?_; rintro e w1 ⟨rfl, hk⟩; have HK := hide hk; clear hk))
  go_end0
  exact ⟨rfl, unhide HK⟩

/-- The value v is the list bs, in memory that was not there in w. -/
def NewB (w w' : World) (v : Value) (bs : List Nat) : Prop :=
  Rd w' v bs ∧ ((bs = [] ∧ v = .slice none 0 0) ∨ ∃ g, v = .slice (some ⟨g, 0, none⟩) bs.length bs.length ∧ w.heap.size ≤ g ∧ w'.heap[g]? = some (.cells (bs.map u8).toArray 5 (0, 0)))
theorem NewB.weak {w0 w w' : World} {v : Value} {bs : List Nat} (h : NewB w w' v bs) (k : w0.heap.size ≤ w.heap.size) : NewB w0 w' v bs :=
  ⟨h.1, h.2.imp id fun ⟨g, h1, h2, h3⟩ => ⟨g, h1, Nat.le_trans k h2, h3⟩⟩
theorem NewB.nil (w w' : World) : NewB w w' (.slice none 0 0) [] := ⟨Rd.nil _, Or.inl ⟨rfl, rfl⟩⟩
theorem NewB.mk {w w' : World} {g : Nat} {bs : List Nat} (hg : w.heap.size ≤ g) (h : w'.heap[g]? = some (.cells (bs.map u8).toArray 5 (0, 0))) (hb : ∀ x ∈ bs, x < 256) (hl : bs.length ≤ 140737488355328) : NewB w w' (.slice (some ⟨g, 0, none⟩) bs.length bs.length) bs :=
  ⟨rd_fresh h hb hl, Or.inr ⟨g, rfl, hg, h⟩⟩
theorem take_byte {l : List Nat} {k : Nat} (h : ∀ x ∈ l, x < 256) : ∀ x ∈ l.take k, x < 256 := fun x hx => h x (List.mem_of_mem_take hx)

/-- A Writer that is new since w0. -/
structure Wn (w0 w : World) (b : Nat) (v : Value) (bs : List Nat) : Prop where
  at_ : WrAt w b v bs
  new : ∀ g, v.ownBlock = some g → w0.heap.size ≤ g
  hb : w0.heap.size ≤ b
  kept : Kept [] w0 w
theorem Wn.grew {w0 w w' : World} {b : Nat} {v v' : Value} {bs bs' : List Nat} (h : Wn w0 w b v bs) (hw : WrAt w' b v' bs') (g : Grew b v v' w w') : Wn w0 w' b v' bs' :=
  ⟨hw, g.fresh h.new h.kept.size, h.hb, g.keptNil h.kept h.hb h.new⟩
theorem Wn.start {w0 w : World} (k : Kept [] w0 w) : Wn w0 (w.alloc (.cells #[.slice none 0 0] 103)) w.heap.size (.slice none 0 0) [] :=
  ⟨WrAt.new w, by intro g hg; simp [Value.ownBlock] at hg, k.size, k.alloc _⟩
theorem Wn.rd {w0 w w' : World} {b : Nat} {v : Value} {bs : List Nat} (h : Wn w0 w b v bs) {pv : Value} {p : List Nat} (hr : Rd w0 pv p) (k : Kept (b :: v.ownBlock.toList) w w') : Rd w' pv p := by
  have k2 : Kept (b :: v.ownBlock.toList) w0 w' := (h.kept.mono (by simp)).trans k (fun x hx => Or.inl hx)
  refine hr.old k2 (fun x hx => ?_)
  rcases List.mem_cons.1 hx with rfl | hx
  · exact h.hb
  · exact h.new x (by simpa [Option.mem_toList] using hx)

theorem wn_u8 {w0 w : World} {b : Nat} {v : Value} {bs : List Nat} (x : Nat) (h : Wn w0 w b v bs) (hx : x < 256) (hl : bs.length + 8 ≤ 140737488355328) :
    Calls Tryd.prog 72 #[.pointer (some ⟨b, 0, none⟩), .int .u8 x] w fun e w' => e = .returned (.tuple #[]) ∧ ∃ v', Wn w0 w' b v' (bs ++ wide x 1) :=
  (wu8_any b v bs x w h.at_ hx hl).mono fun e w' ⟨he, v', h1, h2⟩ => ⟨he, v', h.grew h1 h2⟩

theorem wn_u16 {w0 w : World} {b : Nat} {v : Value} {bs : List Nat} (x : Nat) (h : Wn w0 w b v bs) (hx : x < 65536) (hl : bs.length + 8 ≤ 140737488355328) :
    Calls Tryd.prog 79 #[.pointer (some ⟨b, 0, none⟩), .int .u16 x] w fun e w' => e = .returned (.tuple #[]) ∧ ∃ v', Wn w0 w' b v' (bs ++ wide x 2) :=
  (wu16_any b v bs x w h.at_ hx hl).mono fun e w' ⟨he, v', h1, h2⟩ => ⟨he, v', h.grew h1 h2⟩

theorem wn_u64 {w0 w : World} {b : Nat} {v : Value} {bs : List Nat} (x : Nat) (h : Wn w0 w b v bs) (hl : bs.length + 8 ≤ 140737488355328) :
    Calls Tryd.prog 73 #[.pointer (some ⟨b, 0, none⟩), .int .u64 x] w fun e w' => e = .returned (.tuple #[]) ∧ ∃ v', Wn w0 w' b v' (bs ++ wide x 8) :=
  (wu64_any b v bs x w h.at_ hl).mono fun e w' ⟨he, v', h1, h2⟩ => ⟨he, v', h.grew h1 h2⟩

theorem wn_raw {w0 w : World} {b : Nat} {v pv : Value} {bs p : List Nat} (h : Wn w0 w b v bs) (hr : Rd w pv p) (hl : bs.length + p.length ≤ 140737488355328) :
    Calls Tryd.prog 74 #[.pointer (some ⟨b, 0, none⟩), pv] w fun e w' => e = .returned (.tuple #[]) ∧ ∃ v', Wn w0 w' b v' (bs ++ p) :=
  (wraw_any b v pv bs p w h.at_ hr hl).mono fun e w' ⟨he, v', h1, h2⟩ => ⟨he, v', h.grew h1 h2⟩

theorem wn_uvar {w0 w : World} {b : Nat} {v : Value} {bs : List Nat} (x : Nat) (h : Wn w0 w b v bs) (hx : x < 18446744073709551616) (hl : bs.length + 10 ≤ 140737488355328) :
    Calls Tryd.prog 76 #[.pointer (some ⟨b, 0, none⟩), .int .u64 x] w fun e w' => e = .returned (.tuple #[]) ∧ ∃ v', Wn w0 w' b v' (bs ++ uv x) :=
  (wuvar_any b v bs x w h.at_ hx hl).mono fun e w' ⟨he, v', h1, h2⟩ => ⟨he, v', h.grew h1 h2⟩

theorem wn_blob {w0 w : World} {b : Nat} {v pv : Value} {bs p : List Nat} (h : Wn w0 w b v bs) (hr : Rd w0 pv p) (hl : bs.length + 10 + p.length ≤ 140737488355328) :
    Calls Tryd.prog 77 #[.pointer (some ⟨b, 0, none⟩), pv] w fun e w' => e = .returned (.tuple #[]) ∧ ∃ v', Wn w0 w' b v' (bs ++ (uv p.length ++ p)) :=
  (wblob_any b v pv bs p w h.at_ (fun w' k => h.rd hr k) hl).mono fun e w' ⟨he, v', h1, h2⟩ => ⟨he, v', h.grew h1 h2⟩

theorem wn_bytes {w0 w : World} {b : Nat} {v : Value} {bs : List Nat} (h : Wn w0 w b v bs) (hl : bs.length ≤ 140737488355328) :
    Calls Tryd.prog 75 #[.pointer (some ⟨b, 0, none⟩)] w fun e w' => ∃ v', e = .returned v' ∧ NewB w0 w' v' bs ∧ Kept [] w0 w' :=
  (wbytes_any b v bs w h.at_ hl).mono fun e w' ⟨he, k, h1⟩ => ⟨_, he, NewB.mk h.kept.size h1 h.at_.byte hl, h.kept.trans k (by simp)⟩

end Go.Proofs.YtgnbigijpneebaaDoor
namespace Go.Proofs.YtgnbigijpneebaaDoor
open Go.RowKit Go.BigFrame
set_option linter.unusedVariables false
set_option linter.unusedSimpArgs false

set_option maxRecDepth 100000 in
set_option maxHeartbeats 1000000 in
theorem tagged_any (tag : Nat) (v : Value) (ps : List (List Nat)) (w : World) (ht : tag < 256) (hv : RdL w v ps) (hl : ps.flatten.length ≤ 140737488351232) :
    Calls Tryd.prog 67 #[.int .u8 tag, v] w fun e w' => ∃ g, e = .returned (.slice (some ⟨g, 0, none⟩) (ps.flatten.length + 1) (ps.flatten.length + 1)) ∧ w.heap.size ≤ g ∧ w'.heap[g]? = some (.cells ((tag :: ps.flatten).map u8).toArray 5 (0, 0)) ∧ Kept [] w w' := by
  obtain ⟨ao, len, cap, vs, rfl, h1, h2', h3, h4, h5, h6⟩ := hv
  have H5 := hide h5
  have H6 := hide h6
  clear h5 h6
  subst h2'
  have HW := hide (WrAt.new w)
  go_enter Tryd.func67, Tryd.ntmps67
  go_wp2_with fail
  refine Calls.mono (wu8_any w.heap.size _ [] tag _ (unhide HW) ht (by simp)) ?_
  rintro e w1 ⟨rfl, v1, hw1, g1⟩
  have hwide : wide tag 1 = [tag] := by simp [wide]; omega
  rw [hwide, List.nil_append] at hw1
  have HW1 := hide hw1
  have HV1 := hide (g1.fresh (B := w.heap.size) (by intro g hg; simp [Value.ownBlock] at hg) (by simp))
  have HK1 := hide (g1.keptNil ((Kept.refl [] w).alloc _) (by omega) (by intro g hg; simp [Value.ownBlock] at hg))
  clear hw1 g1 hwide
  go_wp2_with fail
  go_loopw [12] (fun t12 wr => ∃ (i : Nat) (vv : Value), i ≤ ps.length ∧ t12 = .int .i64 i ∧ Hid (WrAt wr w.heap.size vv (tag :: (ps.take i).flatten)) ∧ Hid (∀ g, vv.ownBlock = some g → w.heap.size ≤ g) ∧ Hid (Kept [] w wr)) (fun t _ => ps.length - (intOf t).toNat)
  case atStart => exact ⟨0, v1, Nat.zero_le _, rfl, HW1, HV1, HK1⟩
  case round =>
    clear HW1 HV1 HK1
    obtain ⟨i, vv, hi, rfl, HWr, HVr, HK⟩ := hrel
    by_cases hlt : i < ps.length
    · have hlt' : (i : Int) < ps.length := by omega
      obtain ⟨b, o, rfl, hcell⟩ := unhide H5 (by omega)
      have ci := (unhide HK).cell (hcell i hlt) (by simp)
      have HR := hide ((unhide H6 i hlt).old (unhide HK) (by simp))
      have HFS := hide (flat_snoc ps i hlt)
      have HFL := hide (flat_le ps (i + 1))
      clear hcell
      generalize vs.getD i undef = vi at ci HR
      generalize ps.getD i [] = pi at HR HFS
      go_wp2_with fail
      refine Calls.mono (wraw_any w.heap.size vv vi _ pi wr (unhide HWr) (unhide HR) (by have h8 := unhide HFL; rw [unhide HFS, List.length_append] at h8; rw [List.length_cons]; omega)) ?_
      rintro e w4 ⟨rfl, v4, hw4, g4⟩
      rw [List.cons_append, ← unhide HFS] at hw4
      have HW4 := hide hw4
      have HV4 := hide (g4.fresh (unhide HVr) (unhide HK).size)
      have HK4 := hide (g4.keptNil (unhide HK) (Nat.le_refl _) (unhide HVr))
      clear hw4 g4
      go_wp2
      go_roundw
      case rel => exact ⟨i + 1, v4, by omega, by go_num, HW4, HV4, HK4⟩
      case measure => simp [intOf]; omega
    · have hlt' : ¬ (i : Int) < ps.length := by omega
      have hie : i = ps.length := by omega
      subst hie
      rw [List.take_length] at HWr
      obtain ⟨F, hF⟩ : ∃ F, ps.flatten = F := ⟨_, rfl⟩
      rw [hF] at HWr hl
      have HF := hide hF
      clear hF
      go_wp2_with fail
      refine Calls.mono (wbytes_any w.heap.size vv _ wr (unhide HWr) (by rw [List.length_cons]; omega)) ?_
      rintro e w5 ⟨rfl, k5, h5⟩
      have HR5 := hide h5
      have HK5 := hide ((unhide HK).trans k5 (by simp))
      clear k5 h5
      go_wp2
      go_ret
      exact ⟨wr.heap.size, by rw [unhide HF]; rfl, (unhide HK).size, by rw [unhide HF]; exact unhide HR5, unhide HK5⟩

theorem RdL.nil (w : World) : RdL w (.slice none 0 0) [] := ⟨none, 0, 0, [], rfl, rfl, rfl, Nat.le_refl _, by omega, fun h => by omega, fun i h => by omega⟩
/-- One list. -/
theorem RdL.one {w : World} {g : Nat} {v : Value} {p : List Nat} {t : TypeId} {fr : Nat × Nat} (h : w.heap[g]? = some (.cells #[v] t fr)) (hr : Rd w v p) : RdL w (.slice (some ⟨g, 0, none⟩) 1 1) [p] := by
  refine ⟨_, 1, 1, [v], rfl, rfl, rfl, Nat.le_refl _, by omega, fun _ => ⟨g, 0, rfl, fun i hi => ?_⟩, fun i hi => ?_⟩
  · have : i = 0 := by omega
    subst this
    rw [cell_of_row _ _ _ _ _ _ h]; rfl
  · have : i = 0 := by omega
    subst this
    exact hr

set_option maxRecDepth 100000 in
set_option maxHeartbeats 1000000 in
theorem nomap_any (z : Int) (w : World) (hz : -9223372036854775808 ≤ z ∧ z ≤ 9223372036854775807) (hw : widthB z = true) (hT : Tabs w) :
    Calls Tryd.prog 27 #[.int .i64 z] w fun e w' => e = .returned (.tuple #[.agg (brow (cutL z.toNat (hash [5]))), .int .i64 0]) ∧ Kept [] w w' := by
  have HT := hide hT
  clear hT
  have hcl := cutL_len z.toNat (hash [5]) (by have h9 : 1 ≤ z ∧ z ≤ 32 := (by simpa [widthB] using hw); omega) (hash_len [5])
  go_enter Tryd.func27, Tryd.ntmps27
  go_wp2_with fail
  rw [zb32]
  refine Calls.mono (tagged_any 5 _ [] _ (by decide) (RdL.nil _) (by simp)) ?_
  rintro e w1 ⟨g, rfl, hg, h1, k1⟩
  have HR1 := hide (rd_fresh h1 (by simp) (by simp))
  have HZ1 := hide (k1.heap (heap_alloc_new w (.cells (zb 32) 26)) (by simp))
  have HK1 := hide (((Kept.refl [] w).alloc (.cells (zb 32) 26)).trans k1 (by simp))
  clear h1 k1
  go_wp2_with fail
  refine Calls.mono (dsum_any z _ [[5]] _ hz (RdL.one (heap_alloc_new _ _) ((unhide HR1).old ((Kept.refl [] w1).alloc _) (by simp))) (by simp) ((unhide HT).k ((unhide HK1).alloc _)) hw) ?_
  rintro e w2 ⟨rfl, k2⟩
  rw [show ([[5]] : List (List Nat)).flatten = [5] from rfl]
  have HZ2 := hide (k2.heap ((Kept.refl [] w1).alloc (.cells #[.slice (some ⟨g, 0, none⟩) 1 1] 24) |>.heap (unhide HZ1) (by simp)) (by simp))
  have HK2 := hide (((unhide HK1).alloc _).trans k2 (by simp))
  clear k2
  go_wp2_with (refine wpList_store_row rfl 26 _ _ rfl w.heap.size (brow (cutL z.toNat (hash [5]))) rfl rfl _ (zb 32) (unhide HZ2) (by rw [brow_size, hcl]; exact Tryd.size_dig) (by rw [zb_size, brow_size, hcl]) (brow_one _) ?_)
  refine bodyPost_ret (v := .tuple #[.agg (brow (cutL z.toNat (hash [5]))), .int .i64 0]) ?_ rfl ⟨rfl, (unhide HK2).setRow (by simp) _⟩
  exact results_cell_tmp rfl _ _ w.heap.size _ (brow (cutL z.toNat (hash [5]))) (0, 0) _ rfl (setRow_heap _ _ _ _ _ _ (unhide HZ2)) Tryd.underlying26 rfl (by rw [brow_size, hcl]; exact Tryd.size_dig) _ rfl

end Go.Proofs.YtgnbigijpneebaaDoor
namespace Go.Proofs.YtgnbigijpneebaaDoor
open Go.RowKit Go.BigFrame
set_option linter.unusedVariables false
set_option linter.unusedSimpArgs false

/-- The slice value v reads as the digests ds. -/
def RdD (w : World) (v : Value) (ds : List (List Nat)) : Prop :=
  ∃ (ao : Option Addr) (len cap : Nat), v = .slice ao len cap ∧ ds.length = len ∧ len ≤ cap ∧ cap ≤ 288230376151711743 ∧ (∀ d ∈ ds, d.length = 32 ∧ ∀ x ∈ d, x < 256) ∧
    (0 < len → ∃ b off, ao = some ⟨b, off, none⟩ ∧ ∀ i, i < len → w.rangeAt b (off + i * 32) ((ds.getD i []).map u8))
theorem RdD.old {w0 w : World} {v : Value} {ds : List (List Nat)} (h : RdD w0 v ds) (k : Kept [] w0 w) : RdD w v ds := by
  obtain ⟨ao, len, cap, rfl, h1, h2, h3, h4, h5⟩ := h
  refine ⟨ao, len, cap, rfl, h1, h2, h3, h4, fun hp => ?_⟩
  obtain ⟨b, off, rfl, hc⟩ := h5 hp
  exact ⟨b, off, rfl, fun i hi j v hv => k.cell (hc i hi j v hv) (by simp)⟩

/-- What formed answers. -/
def formedE (z : Int) (ds : List (List Nat)) : Nat := if widthB z = false then 1 else if ds.all (formB z) then 0 else 3

set_option maxRecDepth 100000 in
set_option maxHeartbeats 1000000 in
theorem formed_any (z : Int) (v : Value) (ds : List (List Nat)) (w : World) (hz : -9223372036854775808 ≤ z ∧ z ≤ 9223372036854775807) (hv : RdD w v ds) :
    Calls Tryd.prog 71 #[.int .i64 z, v] w fun e w' => e = .returned (.int .i64 (formedE z ds)) ∧ Kept [] w w' := by
  obtain ⟨ao, len, cap, rfl, h1, h2, h3, h4, h5⟩ := hv
  have H4 := hide h4
  have H5 := hide h5
  clear h4 h5
  subst h1
  go_enter Tryd.func71, Tryd.ntmps71
  go_wp2_with fail
  refine Calls.mono (isWidth_any z _ hz) ?_
  rintro e w1 ⟨rfl, rfl⟩
  cases hw : widthB z with
  | false =>
    have HF := hide (by simp [formedE, hw] : formedE z ds = 1)
    clear hw
    go_wp2
    go_ret
    exact ⟨by rw [unhide HF]; rfl, Kept.refl _ _⟩
  | true =>
    have HW := hide hw
    clear hw
    go_wp2_with fail
    go_loopw [12] (fun t12 wr => ∃ (i : Nat), i ≤ ds.length ∧ t12 = .int .i64 i ∧ Hid ((ds.take i).all (formB z) = true) ∧ Hid (Kept [] w1 wr)) (fun t _ => ds.length - (intOf t).toNat)
    case atStart => exact ⟨0, Nat.zero_le _, rfl, hide (by simp), hide (Kept.refl _ _)⟩
    case round =>
      obtain ⟨i, hi, rfl, HA, HK⟩ := hrel
      by_cases hlt : i < ds.length
      · have hlt' : (i : Int) < ds.length := by omega
        obtain ⟨b, o, rfl, hcell⟩ := unhide H5 (by omega)
        have HD := hide (unhide H4 (ds.getD i []) (by rw [List.getD_eq_getElem?_getD, List.getElem?_eq_getElem hlt]; exact List.getElem_mem hlt))
        have HRG := hide (fun j v hv => (unhide HK).cell (hcell i hlt j v hv) (by simp) : wr.rangeAt b (o + i * 32) ((ds.getD i []).map u8))
        have HN := hide (by rw [List.take_succ_eq_append_getElem hlt, List.all_append, unhide HA, List.getD_eq_getElem?_getD, List.getElem?_eq_getElem hlt]; simp : (ds.take (i + 1)).all (formB z) = formB z (ds.getD i []))
        have HM := hide (fun (h : formB z (ds.getD i []) = false) => by
          have : ds.all (formB z) = false := by
            rw [List.all_eq_false]
            exact ⟨ds.getD i [], by rw [List.getD_eq_getElem?_getD, List.getElem?_eq_getElem hlt]; exact List.getElem_mem hlt, by rw [h]; decide⟩
          simp [formedE, unhide HW, this] : formB z (ds.getD i []) = false → formedE z ds = 3)
        clear hcell
        obtain ⟨d, hd⟩ : ∃ d, ds.getD i [] = d := ⟨_, rfl⟩
        rw [hd] at HD HRG HN HM
        clear hd
        have hdl := (unhide HD).1
        have HSZ := hide (by rw [brow_size, hdl]; exact Tryd.size_dig : (Tryd.prog.info? 26).map (·.size) = some (brow d).size)
        have HNW := hide (setRow_heap (wr.alloc (.cells (zb 32) 26)) wr.heap.size (zb 32) (brow d) 26 (0, 0) (heap_alloc_new _ _))
        have HKN := hide (((unhide HK).alloc (.cells (zb 32) 26)).setRow (g := wr.heap.size) (Or.inr (unhide HK).size) (brow d))
        go_wp2_with (first
          | (refine wpList_load_mid rfl 26 (.tmp 14) rfl b (o + i * 32) rfl (d.map u8) _ (unhide HRG) Tryd.underlying26 rfl (by rw [List.length_map, hdl]; exact Tryd.size_dig) ?_)
          | (rw [zb32]; refine wpList_store_row rfl 26 (.tmp 6) _ rfl wr.heap.size (brow d) rfl rfl _ (zb 32) (heap_alloc_new _ _) (unhide HSZ) (by rw [zb_size, brow_size, hdl]) (brow_one _) ?_)
          | (refine wpList_load_row rfl 26 (.tmp 6) rfl wr.heap.size rfl _ (brow d) (0, 0) _ (unhide HNW) Tryd.underlying26 rfl (unhide HSZ) ?_))
        refine Calls.mono (form_any z d _ hz hdl (unhide HD).2) ?_
        rintro e w4 ⟨rfl, k4⟩
        have HK4 := hide ((unhide HKN).trans k4 (by simp))
        clear k4
        cases hf : formB z d with
        | true =>
          rw [hf] at HN
          clear hf
          go_wp2
          go_roundw
          case rel => exact ⟨i + 1, by omega, by go_num, HN, HK4⟩
          case measure => simp [intOf]; omega
        | false =>
          have HF := hide (unhide HM hf)
          clear hf
          go_wp2
          go_ret
          exact ⟨by rw [unhide HF]; rfl, unhide HK4⟩
      · have hlt' : ¬ (i : Int) < ds.length := by omega
        have hie : i = ds.length := by omega
        subst hie
        rw [List.take_length] at HA
        have HF := hide (by simp [formedE, unhide HW, unhide HA] : formedE z ds = 0)
        go_wp2
        go_ret
        exact ⟨by rw [unhide HF]; rfl, unhide HK⟩
end Go.Proofs.YtgnbigijpneebaaDoor
namespace Go.Proofs.YtgnbigijpneebaaDoor
open Go.RowKit Go.BigFrame
set_option linter.unusedVariables false
set_option linter.unusedSimpArgs false

theorem range_left (w : World) (g : Nat) (a b : List Value) (t : TypeId) (fr : Nat × Nat) (x : Value) (h : w.heap[g]? = some (.cells (x :: (a ++ b)).toArray t fr)) : w.rangeAt g 1 a ∧ w.rangeAt g (1 + a.length) b := by
  constructor
  · intro j v hv
    have hj := (List.getElem?_eq_some_iff.1 hv).1
    rw [cell_of_row w g (1 + j) _ t fr h, Nat.add_comm]
    simp [List.getElem?_append_left hj, hv]
  · intro j v hv
    rw [cell_of_row w g _ _ t fr h, show 1 + a.length + j = (a.length + j) + 1 by omega]
    rw [List.getElem?_toArray, List.getElem?_cons_succ, List.getElem?_append_right (by omega), Nat.add_sub_cancel_left, hv]
theorem fold_put (vs : List Value) : ∀ (A : Array Value) (k n : Nat), k + n + vs.length ≤ A.size → (vs.zipIdx n).foldl (fun cs x => cs.setIfInBounds (k + x.2) x.1) A = (A.toList.take (k + n) ++ (vs ++ A.toList.drop (k + n + vs.length))).toArray := by
  induction vs with
  | nil => intro A k n h; simp
  | cons v vs ih =>
    intro A k n h
    rw [List.zipIdx_cons, List.foldl_cons, ih _ k (n + 1) (by simp at h ⊢; omega)]
    have hA : k + n < A.toList.length := by simp at h ⊢; omega
    rw [Array.toList_setIfInBounds]
    rw [show k + (n + 1) = k + n + 1 by omega, List.take_succ_eq_append_getElem (by simpa using hA)]
    simp only [List.take_set_of_le (Nat.le_refl _), List.getElem_set_self, List.append_assoc, List.cons_append, List.nil_append, List.length_cons]
    rw [List.drop_set_of_lt (by omega)]
    rw [show k + n + 1 + vs.length = k + n + (vs.length + 1) by omega]
theorem fold_size (vs : List Value) : ∀ (A : Array Value) (n : Nat), ((vs.zipIdx n).foldl (fun cs x => cs.setIfInBounds x.2 x.1) A).size = A.size := by
  induction vs with
  | nil => intro A n; rfl
  | cons v vs ih => intro A n; rw [List.zipIdx_cons, List.foldl_cons, ih]; simp
theorem two_digs (l m : List Nat) (hl : l.length = 32) (hm : m.length = 32) : List.foldl (fun cs x => cs.setIfInBounds (32 + x.snd) x.fst) (List.foldl (fun cs x => cs.setIfInBounds x.snd x.fst) (zb 64) (List.map u8 l).zipIdx) (List.map u8 m).zipIdx = (l.map u8 ++ m.map u8).toArray := by
  have h1 := fold_put (l.map u8) (zb 64) 0 0 (by simp [hl, zb, brow])
  simp only [Nat.zero_add] at h1
  rw [h1, fold_put (m.map u8) _ 32 0 (by simp [hl, hm, zb, brow])]
  simp [hl, hm, zb, brow, List.take_append, List.drop_append]
theorem RdD.two {w : World} {g : Nat} {l m : List Nat} {t : TypeId} {fr : Nat × Nat} (h : w.heap[g]? = some (.cells (l.map u8 ++ m.map u8).toArray t fr)) (hl : l.length = 32) (hm : m.length = 32) (hlb : ∀ x ∈ l, x < 256) (hmb : ∀ x ∈ m, x < 256) : RdD w (.slice (some ⟨g, 0, none⟩) 2 2) [l, m] := by
  refine ⟨_, 2, 2, rfl, rfl, Nat.le_refl _, by omega, ?_, fun _ => ⟨g, 0, rfl, fun i hi => ?_⟩⟩
  · intro d hd
    simp only [List.mem_cons, List.not_mem_nil, or_false] at hd
    rcases hd with rfl | rfl
    · exact ⟨hl, hlb⟩
    · exact ⟨hm, hmb⟩
  · rcases (by omega : i = 0 ∨ i = 1) with rfl | rfl
    · intro j v hv
      have hv' : (l.map u8)[j]? = some v := hv
      have hj := (List.getElem?_eq_some_iff.1 hv').1
      rw [cell_of_row w g _ _ t fr h]
      simp only [Nat.zero_mul, Nat.zero_add]
      rw [List.getElem?_toArray, List.getElem?_append_left hj]
      exact hv'
    · intro j v hv
      rw [cell_of_row w g _ _ t fr h]
      simp only [Nat.one_mul, Nat.zero_add]
      rw [List.getElem?_toArray, List.getElem?_append_right (by simp [hl]), List.length_map, hl, Nat.add_sub_cancel_left]
      exact hv

/-- The cells of a Root. -/
def rootC (s : Nat) (l m : List Nat) : List Value := .int .u64 (s : Int) :: (l.map u8 ++ m.map u8)
def rootB (z : Int) (s : Nat) (l m : List Nat) : List Nat := 6 :: (wide s 8 ++ (l.take z.toNat ++ m.take z.toNat))
/-- The first k bytes of an array of 32 that lies in a block. -/
theorem rd_dig {w : World} {b o k : Nat} {l : List Nat} (h : w.rangeAt b o (l.map u8)) (hl : l.length = 32) (hb : ∀ x ∈ l, x < 256) (hk : k ≤ 32) : Rd w (.slice (some ⟨b, o, none⟩) k 32) (l.take k) := by
  refine ⟨_, _, _, rfl, by simp [hl]; omega, by omega, ⟨by omega, by omega⟩, fun h => by simp at h, take_byte hb, fun hp => ⟨b, o, rfl, fun i hi => ?_⟩⟩
  have hi' : i < l.length := by omega
  have hik : i < k := hi
  rw [h i (u8 (l.getD i 0)) (by rw [List.getElem?_map, List.getElem?_eq_getElem hi', List.getD_eq_getElem?_getD, List.getElem?_eq_getElem hi']; rfl)]
  rw [List.getD_eq_getElem?_getD, List.getD_eq_getElem?_getD, List.getElem?_take, if_pos hik]
theorem range_kept {L : List Nat} {w w' : World} {b o : Nat} {cs : List Value} (h : w.rangeAt b o cs) (k : Kept L w w') (hb : b ∉ L) : w'.rangeAt b o cs := fun j v hv => k.cell (h j v hv) hb

set_option maxRecDepth 100000 in
set_option maxHeartbeats 1000000 in
theorem rootInput_any (z : Int) (s : Nat) (l m : List Nat) (w : World) (hz : -9223372036854775808 ≤ z ∧ z ≤ 9223372036854775807) (hs : s < 18446744073709551616) (hl : l.length = 32) (hm : m.length = 32) (hlb : ∀ x ∈ l, x < 256) (hmb : ∀ x ∈ m, x < 256) :
    Calls Tryd.prog 31 #[.int .i64 z, .agg (rootC s l m).toArray] w fun e w' => ∃ v, e = .returned (.tuple #[v, .int .i64 (formedE z [l, m])]) ∧ NewB w w' v (if formedE z [l, m] = 0 then rootB z s l m else []) ∧ Kept [] w w' := by
  have HB := hide hlb
  have HB2 := hide hmb
  clear hlb hmb
  obtain ⟨f, hfe⟩ : ∃ f, formedE z [l, m] = f := ⟨_, rfl⟩
  rw [hfe]
  have HFE := hide hfe
  obtain ⟨B, hB⟩ : ∃ B, (if f = 0 then rootB z s l m else []) = B := ⟨_, rfl⟩
  rw [hB]
  have HBB := hide hB
  clear hfe hB
  go_enter Tryd.func31, Tryd.ntmps31
  have HR := hide (range_left (w.alloc (.cells (rootC s l m).toArray 32)) w.heap.size (l.map u8) (m.map u8) 32 (0, 0) _ (heap_alloc_new w (.cells (rootC s l m).toArray 32)))
  have HSL := hide (by rw [List.length_map, hl]; exact Tryd.size_dig : (Tryd.prog.info? 26).map (·.size) = some (l.map u8).length)
  have HSM := hide (by rw [List.length_map, hm]; exact Tryd.size_dig : (Tryd.prog.info? 26).map (·.size) = some (m.map u8).length)
  rw [List.length_map, hl] at HR
  have hfs : ∀ A : Array Value, (List.foldl (fun cs x => cs.setIfInBounds x.snd x.fst) A (List.map u8 l).zipIdx).size = A.size := fun A => fold_size _ A 0
  go_wp2_with (first
    | (refine wpList_load_mid rfl 26 _ rfl w.heap.size 1 rfl (l.map u8) _ (unhide HR).1 Tryd.underlying26 rfl (unhide HSL) ?_)
    | (refine wpList_load_mid rfl 26 _ rfl w.heap.size 33 rfl (m.map u8) _ (unhide HR).2 Tryd.underlying26 rfl (unhide HSM) ?_))
  rw [zb64, two_digs l m hl hm]
  clear hfs
  refine Calls.mono (formed_any z _ [l, m] _ hz (RdD.two (heap_alloc2_new _ _ _) hl hm (unhide HB) (unhide HB2))) ?_
  rintro e w1 ⟨rfl, k1⟩
  have HK1 := hide ((((Kept.refl [] w).alloc (.cells (rootC s l m).toArray 32)).alloc (.cells (l.map u8 ++ m.map u8).toArray 26)).trans k1 (by simp))
  have HG := hide (k1.heap ((Kept.refl [] (w.alloc (.cells (rootC s l m).toArray 32))).alloc (.cells (l.map u8 ++ m.map u8).toArray 26) |>.heap (heap_alloc_new w (.cells (rootC s l m).toArray 32)) (by simp)) (by simp))
  clear k1 HR
  have hc0 : w1.cell? ⟨w.heap.size, 0, none⟩ = some (.int .u64 (s : Int)) := by rw [cell_of_row _ _ _ _ _ _ (unhide HG)]; rfl
  have HR := hide (range_left w1 w.heap.size (l.map u8) (m.map u8) 32 (0, 0) _ (unhide HG))
  rw [List.length_map, hl] at HR
  by_cases hf : f = 0
  · have hwd : 1 ≤ z ∧ z ≤ 32 := by
      have h9 := unhide HFE
      unfold formedE at h9
      cases hw : widthB z with
      | false => rw [hw] at h9; simp at h9; omega
      | true => simpa [widthB] using hw
    obtain ⟨k, rfl⟩ : ∃ k : Nat, z = k := ⟨z.toNat, by omega⟩
    have hk : (k : Int) ≤ 32 := hwd.2
    subst hf
    have HW0 := hide (Wn.start (Kept.refl [] w1))
    rw [unhide HFE]
    go_wp2_with fail
    refine Calls.mono (wn_u8 6 (unhide HW0) (by decide) (by simp)) ?_
    rintro e w2 ⟨rfl, v2, h2⟩
    have HW2 := hide h2
    have hc2 := h2.kept.cell hc0 (by simp)
    clear h2 HW0
    go_wp2_with fail
    refine Calls.mono (wn_u64 s (unhide HW2) (by simp [wide_len])) ?_
    rintro e w3 ⟨rfl, v3, h3⟩
    have HW3 := hide h3
    have HR3 := hide (rd_dig (k := k) (range_kept (unhide HR).1 h3.kept (by simp)) hl (unhide HB) (by omega))
    clear h3 HW2 hc2
    go_wp2_with fail
    refine Calls.mono (wn_raw (unhide HW3) (unhide HR3) (by simp [wide_len, hl]; omega)) ?_
    rintro e w4 ⟨rfl, v4, h4⟩
    have HW4 := hide h4
    have HR4 := hide (rd_dig (k := k) (range_kept (unhide HR).2 h4.kept (by simp)) hm (unhide HB2) (by omega))
    clear h4 HW3 HR3
    go_wp2_with fail
    refine Calls.mono (wn_raw (unhide HW4) (unhide HR4) (by simp [wide_len, hl, hm]; omega)) ?_
    rintro e w5 ⟨rfl, v5, h5⟩
    have HW5 := hide h5
    clear h5 HW4 HR4
    go_wp2_with fail
    refine Calls.mono (wn_bytes (unhide HW5) (by simp [wide_len, hl, hm]; omega)) ?_
    rintro e w6 ⟨v6, rfl, h6, k6⟩
    have H6 := hide h6
    have HK6 := hide ((unhide HK1).trans k6 (by simp))
    clear h6 k6
    go_wp2
    go_ret2
    refine ⟨_, rfl, ?_, unhide HK6⟩
    have e9 : [] ++ wide 6 1 ++ wide s 8 ++ l.take k ++ m.take k = B := by
      rw [← unhide HBB, if_pos trivial]; simp [rootB, wide]
    rw [e9] at H6
    exact (unhide H6).weak (unhide HK1).size
  · have hf' : ((f : Int) != 0) = true := by rw [bne_iff_ne]; omega
    rw [if_neg hf] at HBB
    have HF := hide hf
    clear hf
    rw [unhide HFE]
    go_wp2
    go_ret2
    exact ⟨_, rfl, by rw [← unhide HBB]; exact NewB.nil _ _, unhide HK1⟩
end Go.Proofs.YtgnbigijpneebaaDoor
namespace Go.Proofs.YtgnbigijpneebaaDoor
open Go.RowKit Go.BigFrame
set_option linter.unusedVariables false
set_option linter.unusedSimpArgs false

/-- A literal of an array, as a row that is known. -/
theorem wpList_build_as {P : Program} {ops : Array Oper} {rest : List Oper} {o : Oper} {a : Act} {w : World} {Q : Exit → Act → World → Prop} (hg : o.guard = none) (t : TypeId) (parts : Array (Nat × Operand)) (ho : o.op = .build t parts) (cs : Array Value)
    (hb : P.built t (parts.map fun (i, x) => (i, a.eval x)).toList = some cs) (h : wpList P ops Q rest (a.put o.dst (.agg cs)) w) : wpList P ops Q (o :: rest) a w :=
  wpList_build hg t parts ho (by rw [hb]; rfl) (by rw [hb]; exact h)
theorem RdL.row {w : World} {g n : Nat} {vs : List Value} {ps : List (List Nat)} {t : TypeId} {fr : Nat × Nat} (h : w.heap[g]? = some (.cells vs.toArray t fr)) (hv : vs.length = n) (hp : ps.length = n) (hn : n ≤ 140737488355328)
    (hr : ∀ i, i < n → Rd w (vs.getD i undef) (ps.getD i [])) : RdL w (.slice (some ⟨g, 0, none⟩) n n) ps := by
  refine ⟨_, n, n, vs, rfl, hv, hp, Nat.le_refl _, by omega, fun _ => ⟨g, 0, rfl, fun i hi => ?_⟩, hr⟩
  rw [cell_of_row _ _ _ _ _ _ h, Nat.zero_add, List.getElem?_toArray, List.getD_eq_getElem?_getD, List.getElem?_eq_getElem (by omega)]; rfl
theorem rd_lit1 {w : World} {g : Nat} (bs : List Nat) {cs : Array Value} (h : w.heap[g]? = some (.cells cs 5 (0, 0))) (hc : cs = (bs.map u8).toArray) (hb : ∀ x ∈ bs, x < 256) (n : Nat) (hn : bs.length = n) (hl : n ≤ 140737488355328) : Rd w (.slice (some ⟨g, 0, none⟩) n n) bs := rd_lit h hc hb n hn hl
def dAbc : List Nat := 186 :: 120 :: List.replicate 30 0
def dA : List Nat := 170 :: List.replicate 31 0
def dB : List Nat := 187 :: List.replicate 31 0
theorem lit_abc : (#[.int .u8 186, .int .u8 120, .int .u8 0, .int .u8 0, .int .u8 0, .int .u8 0, .int .u8 0, .int .u8 0, .int .u8 0, .int .u8 0, .int .u8 0, .int .u8 0, .int .u8 0, .int .u8 0, .int .u8 0, .int .u8 0, .int .u8 0, .int .u8 0, .int .u8 0, .int .u8 0, .int .u8 0, .int .u8 0, .int .u8 0, .int .u8 0, .int .u8 0, .int .u8 0, .int .u8 0, .int .u8 0, .int .u8 0, .int .u8 0, .int .u8 0, .int .u8 0] : Array Value) = brow dAbc := rfl
theorem abc_dig : cutL 2 (hash [97, 98, 99]) = dAbc := by
  unfold hash hashW
  have e : [97, 98, 99] ++ pad [97, 98, 99].length = [97, 98, 99, 128] ++ List.replicate 59 0 ++ [24] := by decide
  rw [e, chain_step (by decide), chain_short (by decide), ← evC_eq]
  decide +kernel

set_option maxRecDepth 100000 in
set_option maxHeartbeats 1000000 in
theorem dawake_any (w : World) (hT : Tabs w) :
    Calls Tryd.prog 9 #[] w fun e w' => e = .returned (.bool true) ∧ Kept [] w w' := by
  have HT := hide hT
  clear hT
  go_enter Tryd.func9, Tryd.ntmps9
  go_wp2_with fail
  have HK0 := hide ((((Kept.refl [] w).alloc (.cells #[.int .u8 97] 5)).alloc (.cells #[.int .u8 98, .int .u8 99] 5)).alloc (.cells #[.slice (some ⟨w.heap.size, 0, none⟩) 1 1, .slice none 0 0, .slice (some ⟨w.heap.size + 1, 0, none⟩) 2 2] 24))
  have HA := hide (heap_alloc3 w (.cells #[.int .u8 97] 5) (.cells #[.int .u8 98, .int .u8 99] 5) (.cells #[.slice (some ⟨w.heap.size, 0, none⟩) 1 1, .slice none 0 0, .slice (some ⟨w.heap.size + 1, 0, none⟩) 2 2] 24))
  obtain ⟨W, hW⟩ : ∃ W, ((w.alloc (.cells #[.int .u8 97] 5)).alloc (.cells #[.int .u8 98, .int .u8 99] 5)).alloc (.cells #[.slice (some ⟨w.heap.size, 0, none⟩) 1 1, .slice none 0 0, .slice (some ⟨w.heap.size + 1, 0, none⟩) 2 2] 24) = W := ⟨_, rfl⟩
  rw [hW] at HK0 HA ⊢
  clear hW
  have hrl : RdL W (.slice (some ⟨w.heap.size + 1 + 1, 0, none⟩) 3 3) [[97], [], [98, 99]] := by
    refine RdL.row (vs := [.slice (some ⟨w.heap.size, 0, none⟩) 1 1, .slice none 0 0, .slice (some ⟨w.heap.size + 1, 0, none⟩) 2 2]) (unhide HA).2.2 rfl rfl (by omega) (fun i hi => ?_)
    rcases (by omega : i = 0 ∨ i = 1 ∨ i = 2) with rfl | rfl | rfl
    · exact rd_lit1 [97] (unhide HA).1 rfl (by decide) 1 rfl (by omega)
    · exact Rd.nil _
    · exact rd_lit1 [98, 99] (unhide HA).2.1 rfl (by decide) 2 rfl (by omega)
  refine Calls.mono (dsum_any 2 _ [[97], [], [98, 99]] W (by decide) hrl (by simp) ((unhide HT).k (unhide HK0)) rfl) ?_
  rintro e w1 ⟨rfl, k1⟩
  have HK1 := hide ((unhide HK0).trans k1 (by simp))
  clear k1 hrl HA
  rw [show cutL (Int.toNat 2) (hash [[97], [], [98, 99]].flatten) = dAbc from abc_dig]
  have HZZ := hide (by rw [brow_size]; exact Tryd.size_dig : (Tryd.prog.info? 26).map (·.size) = some (brow dAbc).size)
  have HD1 := hide (setRow_heap (w1.alloc (.cells (zb 32) 26)) w1.heap.size (zb 32) (brow dAbc) 26 (0, 0) (heap_alloc_new _ _))
  have HKD := hide (((unhide HK1).alloc (.cells (zb 32) 26)).setRow (g := w1.heap.size) (Or.inr (unhide HK1).size) (brow dAbc))
  go_wp2_with (first
    | (rw [zb32]; refine wpList_store_row rfl 26 _ _ rfl w1.heap.size (brow dAbc) rfl rfl _ (zb 32) (heap_alloc_new _ _) (unhide HZZ) (by rw [zb_size, brow_size]; rfl) (brow_one _) ?_)
    | (refine wpList_build_as rfl 26 #[(0, .const (.int .u8 170))] rfl (brow dA) (by kernel_rfl) ?_)
    | (refine wpList_build_as rfl 26 #[(0, .const (.int .u8 187))] rfl (brow dB) (by kernel_rfl) ?_)
    | (refine wpList_build_as rfl 32 _ rfl (rootC 258 dA dB).toArray (by kernel_rfl) ?_))
  refine Calls.mono (rootInput_any 1 258 dA dB _ (by decide) (by decide) rfl rfl (by decide) (by decide)) ?_
  rintro e w2 ⟨v2, rfl, n2, k2⟩
  rw [show formedE 1 [dA, dB] = 0 by decide, if_pos rfl, show rootB 1 258 dA dB = [6, 0, 0, 0, 0, 0, 0, 1, 2, 170, 187] by decide] at n2
  rw [show formedE 1 [dA, dB] = 0 by decide]
  have HD2 := hide (k2.heap (unhide HD1) (by simp))
  have HK2 := hide ((unhide HKD).trans k2 (by simp))
  have HR2 := hide n2.1
  clear k2 n2
  have hqd : ∀ W, (Op.equalIn 10000 26 (.agg (brow dAbc)) (.agg #[.int .u8 186, .int .u8 120, .int .u8 0, .int .u8 0, .int .u8 0, .int .u8 0, .int .u8 0, .int .u8 0, .int .u8 0, .int .u8 0, .int .u8 0, .int .u8 0, .int .u8 0, .int .u8 0, .int .u8 0, .int .u8 0, .int .u8 0, .int .u8 0, .int .u8 0, .int .u8 0, .int .u8 0, .int .u8 0, .int .u8 0, .int .u8 0, .int .u8 0, .int .u8 0, .int .u8 0, .int .u8 0, .int .u8 0, .int .u8 0, .int .u8 0, .int .u8 0])).run Tryd.prog W = .ok true W := by
    intro W
    rw [lit_abc]
    have := dig_eq W dAbc dAbc rfl rfl
    rw [decide_eq_true rfl] at this
    exact this
  go_wp2_with (refine wpList_load_rowG rfl 26 (.tmp 1) rfl w1.heap.size rfl _ (brow dAbc) (0, 0) _ (unhide HD2) Tryd.underlying26 rfl (unhide HZZ) ?_)
  refine Calls.mono (same_any _ _ _ _ _ ((unhide HR2).old ((Kept.refl [] w2).alloc _) (by simp)) (rd_lit1 [6, 0, 0, 0, 0, 0, 0, 1, 2, 170, 187] (heap_alloc_new _ _) rfl (by decide) 11 rfl (by decide))) ?_
  rintro e w3 ⟨rfl, n3, rfl⟩
  rw [decide_eq_true rfl]
  go_wp2
  go_ret
  exact ⟨rfl, ((unhide HK2).alloc _).drewN _⟩
end Go.Proofs.YtgnbigijpneebaaDoor
namespace Go.Proofs.YtgnbigijpneebaaDoor
open Go.RowKit Go.BigFrame
set_option linter.unusedVariables false
set_option linter.unusedSimpArgs false

set_option maxRecDepth 100000 in
set_option maxHeartbeats 1000000 in
theorem rwidth_any (z : Int) (w : World) (hz : -9223372036854775808 ≤ z ∧ z ≤ 9223372036854775807) :
    Calls Tryd.prog 50 #[.int .i64 z] w fun e w' => e = .returned (.bool (widthB z)) ∧ w' = w := by
  by_cases h1 : 1 ≤ z
  · by_cases h2 : z ≤ 32
    · have hw : widthB z = true := by simp [widthB, h1, h2]
      rw [hw]
      clear hw
      go_enter Tryd.func50, Tryd.ntmps50
      go_wp2
      go_ret
      exact ⟨rfl, rfl⟩
    · have hw : widthB z = false := by simp [widthB, h2]
      rw [hw]
      clear hw
      go_enter Tryd.func50, Tryd.ntmps50
      go_wp2
      go_ret
      exact ⟨rfl, rfl⟩
  · have hw : widthB z = false := by simp [widthB, h1]
    rw [hw]
    clear hw
    go_enter Tryd.func50, Tryd.ntmps50
    go_wp2
    go_ret
    exact ⟨rfl, rfl⟩

theorem cutL_iff (k : Nat) (d : List Nat) (hd : d.length = 32) (hk : k ≤ 32) : cutL k d = d ↔ ∀ i, k ≤ i → i < 32 → d.getD i 0 = 0 := by
  constructor
  · intro h i h1 h2
    rw [← h]
    unfold cutL
    rw [List.getD_eq_getElem?_getD, List.getElem?_append_right (by simp; omega), List.getElem?_replicate]
    split <;> rfl
  · intro h
    refine list_ext_getD (by rw [cutL_len k d hk hd, hd]) fun i h1 => ?_
    rw [cutL_len k d hk hd] at h1
    unfold cutL
    rcases Nat.lt_or_ge i k with g | g
    · rw [List.getD_eq_getElem?_getD, List.getElem?_append_left (by simp; omega), List.getElem?_take, if_pos g, List.getD_eq_getElem?_getD]
    · rw [h i g h1, List.getD_eq_getElem?_getD, List.getElem?_append_right (by simp; omega), List.getElem?_replicate]
      split <;> rfl

set_option maxRecDepth 100000 in
set_option maxHeartbeats 1000000 in
theorem docForm_any (z : Int) (d : List Nat) (w : World) (hz : -9223372036854775808 ≤ z ∧ z ≤ 9223372036854775807) (hd : d.length = 32) (hb : ∀ x ∈ d, x < 256) :
    Calls Tryd.prog 83 #[.int .i64 z, .agg (brow d)] w fun e w' => e = .returned (.bool (formB z d)) ∧ Kept [] w w' := by
  have HB := hide hb
  clear hb
  go_enter Tryd.func83, Tryd.ntmps83
  go_wp2_with fail
  refine Calls.mono (rwidth_any z _ hz) ?_
  rintro e w1 ⟨rfl, rfl⟩
  cases hw : widthB z with
  | false =>
    have HF := hide (by simp [formB, hw] : formB z d = false)
    clear hw
    go_wp2
    go_ret
    exact ⟨by rw [unhide HF]; rfl, (Kept.refl [] w).alloc _⟩
  | true =>
    have hz2 : 1 ≤ z ∧ z ≤ 32 := by simpa [widthB] using hw
    have HF := hide (by unfold formB; rw [hw, Bool.true_and] : formB z d = decide (cutL z.toNat d = d))
    clear hw
    obtain ⟨k, rfl⟩ : ∃ k : Nat, z = k := ⟨z.toNat, by omega⟩
    rw [Int.toNat_natCast] at HF
    have HI := hide (cutL_iff k d hd (by omega))
    have HD := hide (heap_alloc_new w (.cells (brow d) 26))
    have HK := hide ((Kept.refl [] w).alloc (.cells (brow d) 26))
    obtain ⟨W, hW⟩ : ∃ W, w.alloc (.cells (brow d) 26) = W := ⟨_, rfl⟩
    rw [hW] at HD HK ⊢
    clear hW
    have hk32 : (k : Int) ≤ 32 := hz2.2
    go_wp2_with fail
    go_loopw [5] (fun t5 wr => ∃ (i n : Nat), k ≤ i ∧ i ≤ 32 ∧ t5 = .int .i64 i ∧ Hid (∀ j, k ≤ j → j < i → d.getD j 0 = 0) ∧ wr = W.drewN n) (fun t _ => 32 - (intOf t).toNat)
    case atStart => exact ⟨k, 0, Nat.le_refl _, by omega, rfl, hide (fun j h1 h2 => by omega), rfl⟩
    case round =>
      obtain ⟨i, n, hki, hi, rfl, HA, rfl⟩ := hrel
      by_cases hlt : i < 32
      · have hlt' : (i : Int) < 32 := by omega
        have ci : W.cell? ⟨w.heap.size, i, none⟩ = some (u8 (d.getD i 0)) := brow_cell (unhide HD) i (by omega)
        obtain ⟨x, hx⟩ : ∃ x, d.getD i 0 = x := ⟨_, rfl⟩
        rw [hx] at ci
        by_cases hx0 : x = 0
        · subst hx0
          have HN := hide (fun j h1 h2 => by
            rcases Nat.lt_or_ge j i with g | g
            · exact unhide HA j h1 g
            · rw [show j = i by omega]; exact hx : ∀ j, k ≤ j → j < i + 1 → d.getD j 0 = 0)
          clear hx
          go_wp2
          go_roundw
          case rel => exact ⟨i + 1, _, by omega, by omega, by go_num, HN, rfl⟩
          case measure => simp [intOf]; omega
        · have hx0' : ((x : Int) != 0) = true := by rw [bne_iff_ne]; omega
          have HN := hide (by
            rw [unhide HF, decide_eq_false_iff_not, unhide HI]
            intro h
            exact hx0 (by rw [← hx]; exact h i hki hlt) : formB k d = false)
          clear hx hx0
          go_wp2
          go_ret
          exact ⟨by rw [unhide HN]; rfl, (unhide HK).drewN _⟩
      · have hlt' : ¬ (i : Int) < 32 := by omega
        have HN := hide (by
          rw [unhide HF, decide_eq_true_iff, unhide HI]
          intro j h1 h2
          exact unhide HA j h1 (by omega) : formB k d = true)
        go_wp2
        go_ret
        exact ⟨by rw [unhide HN]; rfl, (unhide HK).drewN _⟩
end Go.Proofs.YtgnbigijpneebaaDoor
