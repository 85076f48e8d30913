import Derived.Test.YtbbjbpjpejekgaaDoorDCut
namespace Go.Proofs.YtbbjbpjpejekgaaDoor
open Go.RowKit Go.BigFrame
set_option linter.unusedVariables false
set_option linter.unusedSimpArgs false

/-- The slice value v reads as the lists of bytes ps. -/
def RdL (w : World) (v : Value) (ps : List (List Nat)) : Prop :=
  ∃ (ao : Option Addr) (len cap : Nat) (vs : List Value), v = .slice ao len cap ∧ vs.length = len ∧ ps.length = len ∧ len ≤ cap ∧ cap ≤ 9223372036854775807 ∧
    (0 < len → ∃ b off, ao = some ⟨b, off, none⟩ ∧ ∀ i, i < len → w.cell? ⟨b, off + i, none⟩ = some (vs.getD i undef)) ∧ ∀ i, i < len → Rd w (vs.getD i undef) (ps.getD i [])
theorem RdL.old {w0 w : World} {v : Value} {ps : List (List Nat)} (h : RdL w0 v ps) (k : Kept [] w0 w) : RdL w v ps := by
  obtain ⟨ao, len, cap, vs, rfl, h1, h2, h3, h4, h5, h6⟩ := h
  refine ⟨ao, len, cap, vs, rfl, h1, h2, h3, h4, fun hp => ?_, fun i hi => (h6 i hi).old k (by simp)⟩
  obtain ⟨b, off, rfl, hc⟩ := h5 hp
  exact ⟨b, off, rfl, fun i hi => k.cell (hc i hi) (by simp)⟩
theorem Tabs.k {w w' : World} (h : Tabs w) (k : Kept [] w w') : Tabs w' := h.kept k (by simp) (by simp)
theorem flat_snoc (ps : List (List Nat)) (i : Nat) (h : i < ps.length) : (ps.take (i + 1)).flatten = (ps.take i).flatten ++ ps.getD i [] := by
  rw [List.take_succ_eq_append_getElem h, List.flatten_append, List.getD_eq_getElem?_getD, List.getElem?_eq_getElem h]; simp
theorem flat_le (ps : List (List Nat)) (i : Nat) : (ps.take i).flatten.length ≤ ps.flatten.length := by
  conv => rhs; rw [← List.take_append_drop i ps, List.flatten_append, List.length_append]
  omega

theorem hash_byte (p : List Nat) : ∀ x ∈ hash p, x < 256 := by
  intro x hx
  unfold hash dig at hx
  obtain ⟨y, _, hy⟩ := List.mem_flatMap.1 hx
  simp only [bytes4, List.mem_cons, List.not_mem_nil, or_false] at hy
  rcases hy with rfl | rfl | rfl | rfl <;> exact Nat.mod_lt _ (by decide)

theorem results_cell_tmp {P : Program} {fn : Func} {p q : Tmp} {ty : TypeId} (h : fn.results = #[.cell p ty, .tmp q]) (tmps : Array Value) (w : World) (g : Nat) (t : TypeId) (cs : Array Value) (fr : Nat × Nat) (d : TypeDesc)
    (hp : tmps.getD p undef = .pointer (some ⟨g, 0, none⟩)) (hg : w.heap[g]? = some (.cells cs t fr))
    (hu : P.underlying ty = some d) (hd : (match d with | .struct _ | .array _ _ => true | _ => false) = true) (hi : (P.info? ty).map (·.size) = some cs.size) (v : Value) (hq : tmps.getD q undef = v) :
    (results fn tmps).run P w = .ok (.tuple #[.agg cs, v]) w := by
  have hp' : tmps[p]?.getD undef = .pointer (some ⟨g, 0, none⟩) := by simpa using hp
  have hq' : tmps[q]?.getD undef = v := by simpa using hq
  simp [results, h, hp', hq', asAddr, run_loadVar_row w g t ty cs fr d hg hu hd hi]

set_option maxRecDepth 100000 in
set_option maxHeartbeats 1000000 in
theorem dsum_any (z : Int) (v : Value) (ps : List (List Nat)) (w : World) (hz : -9223372036854775808 ≤ z ∧ z ≤ 9223372036854775807) (hv : RdL w v ps) (hl : ps.flatten.length ≤ 140737488355328) (hT : Tabs w) (hw : widthB z = true) :
    Calls Tryd.prog 19 #[.int .i64 z, v] w fun e w' => e = .returned (.tuple #[.agg (brow (cutL z.toNat (hash ps.flatten))), .int .i64 0]) ∧ Kept [] w w' := by
  have HT := hide hT
  have HV := hide (fun W (k : Kept [] w W) => hv.old k)
  have h2 := hT.two
  have HBL := hide (fun i (hi : i < ps.length) => by
    obtain ⟨ao, len, cap, vs, rfl, h1, h2', h3, h4, h5, h6⟩ := hv
    exact ⟨vs, h6 i (by omega)⟩ : ∀ i, i < ps.length → ∃ vs : List Value, Rd w (vs.getD i undef) (ps.getD i []))
  obtain ⟨ao, len, cap, vs, rfl, h1, h2', h3, h4, h5, h6⟩ := hv
  have H5 := hide h5
  have H6 := hide h6
  obtain ⟨hz1, hz2⟩ : 1 ≤ z ∧ z ≤ 32 := by simpa [widthB] using hw
  obtain ⟨k, rfl⟩ : ∃ k : Nat, z = k := ⟨z.toNat, by omega⟩
  clear hT h5 h6 HBL
  go_enter Tryd.func19, Tryd.ntmps19
  go_wp2_with fail
  refine Calls.mono (isWidth_any k _ hz) ?_
  rintro e w1 ⟨rfl, rfl⟩
  rw [hw]
  go_wp2_with fail
  rw [zb32]
  refine Calls.mono (snew_any _) ?_
  rintro e w2 ⟨rfl, s2, k2⟩
  have HS2 := hide s2
  have HZ2 := hide (k2.heap (heap_alloc_new w (.cells (zb 32) 26)) (by simp))
  have HK2 := hide (((Kept.refl [] w).alloc (.cells (zb 32) 26)).trans k2 (by simp))
  obtain ⟨g, hg⟩ : ∃ g, (w.alloc (.cells (zb 32) 26)).heap.size = g := ⟨_, rfl⟩
  rw [hg] at HS2 ⊢
  have Hg := hide (by simp at hg; omega : g = w.heap.size + 1)
  clear s2 k2 hg
  subst h2'
  go_wp2_with fail
  go_loopw [16] (fun t16 wr => ∃ (i : Nat), i ≤ ps.length ∧ t16 = .int .i64 i ∧ Hid (St wr g (ps.take i).flatten) ∧ Hid (wr.heap[w.heap.size]? = some (.cells (zb 32) 26 (0, 0))) ∧ Hid (Kept [] w wr)) (fun t _ => ps.length - (intOf t).toNat)
  case atStart => exact ⟨0, Nat.zero_le _, rfl, HS2, HZ2, HK2⟩
  case round =>
    clear HS2 HZ2 HK2
    obtain ⟨i, hi, rfl, HS, HZ, HK⟩ := hrel
    by_cases hlt : i < ps.length
    · have hlt' : (i : Int) < ps.length := by omega
      obtain ⟨b, o, rfl, hcell⟩ := unhide H5 (by omega)
      have ci := (unhide HK).cell (hcell i hlt) (by simp)
      have HR0 := hide (unhide H6 i hlt)
      have HR := hide ((unhide HR0).old (unhide HK) (by simp))
      have HFS := hide (flat_snoc ps i hlt)
      have HFL := hide (flat_le ps (i + 1))
      have HBk := hide (fun (h0 : 0 < (ps.getD i []).length) => by
        obtain ⟨a1, l1, c1, he, hll, _⟩ := id (unhide HR0)
        rw [he]
        intro hm
        have h9 := Rd.blk_lt (n' := l1) (c' := c1) (by rw [← he]; exact unhide HR0) h0 g hm
        have := unhide Hg
        omega : 0 < (ps.getD i []).length → g ∉ blk (vs.getD i undef))
      clear hcell
      generalize vs.getD i undef = vi at ci HR0 HR HBk
      generalize ps.getD i [] = pi at HR0 HR HBk HFS
      go_wp2_with fail
      refine Calls.mono (write_any g _ vi pi wr (unhide HS) (unhide HR) (unhide HBk) (by have := unhide Hg; omega) (by have h8 := unhide HFL; rw [unhide HFS, List.length_append] at h8; omega) ((unhide HT).k (unhide HK))) ?_
      rintro e w4 ⟨rfl, s4, k4⟩
      rw [← unhide HFS] at s4
      have HS4 := hide s4
      have HZ4 := hide (k4.heap (unhide HZ) (by have := unhide Hg; simp; omega))
      have HK4 := hide ((unhide HK).trans k4 (by have := unhide Hg; simp; omega))
      clear s4 k4
      go_wp2
      go_roundw
      case rel => exact ⟨i + 1, by omega, by go_num, HS4, HZ4, HK4⟩
      case measure => simp [intOf]; omega
    · have hlt' : ¬ (i : Int) < ps.length := by omega
      have hie : i = ps.length := by omega
      subst hie
      rw [List.take_length] at HS
      go_wp2_with fail
      refine Calls.mono (ssum_any g ps.flatten wr (unhide HS) (by omega) ((unhide HT).k (unhide HK))) ?_
      rintro e w5 ⟨rfl, k5⟩
      have HZ5 := hide (k5.heap (unhide HZ) (by simp))
      have HK5 := hide ((unhide HK).trans k5 (by simp))
      clear k5
      have hhl := hash_len ps.flatten
      have HHb := hide (hash_byte ps.flatten)
      go_wp2_with fail
      refine Calls.mono (cut_any k (hash ps.flatten) w5 (by omega) (by omega) hhl (unhide HHb)) ?_
      rintro e w6 ⟨rfl, k6⟩
      have HZ6 := hide (k6.heap (unhide HZ5) (by simp))
      have HK6 := hide ((unhide HK5).trans k6 (by simp))
      clear k6
      have hcl := cutL_len k (hash ps.flatten) (by omega) hhl
      go_wp2_with (refine wpList_store_row rfl 26 _ _ rfl w.heap.size (brow (cutL k (hash ps.flatten))) rfl rfl _ (zb 32) (unhide HZ6) (by rw [brow_size, hcl]; exact Tryd.size_dig) (by rw [zb_size, brow_size, hcl]) (brow_one _) ?_)
      refine bodyPost_ret (v := .tuple #[.agg (brow (cutL k (hash ps.flatten))), .int .i64 0]) ?_ rfl ⟨by rw [Int.toNat_natCast], (unhide HK6).setRow (by simp) _⟩
      exact results_cell_tmp rfl _ _ w.heap.size _ (brow (cutL k (hash ps.flatten))) (0, 0) _ rfl (setRow_heap _ _ _ _ _ _ (unhide HZ6)) Tryd.underlying26 rfl (by rw [brow_size, hcl]; exact Tryd.size_dig) _ rfl

set_option maxRecDepth 100000 in
set_option maxHeartbeats 1000000 in
theorem dsum_bad (z : Int) (v : Value) (w : World) (hz : -9223372036854775808 ≤ z ∧ z ≤ 9223372036854775807) (hw : widthB z = false) :
    Calls Tryd.prog 19 #[.int .i64 z, v] w fun e w' => e = .returned (.tuple #[.agg (zb 32), .int .i64 1]) ∧ Kept [] w w' := by
  go_enter Tryd.func19, Tryd.ntmps19
  go_wp2_with fail
  refine Calls.mono (isWidth_any z _ hz) ?_
  rintro e w1 ⟨rfl, rfl⟩
  rw [hw]
  go_wp2_with (rw [zb32]; refine wpList_store_row rfl 26 _ _ rfl w.heap.size (zb 32) rfl rfl _ (zb 32) (heap_alloc_new _ _) (by rw [zb_size]; exact Tryd.size_dig) rfl (brow_one _) ?_)
  refine bodyPost_ret (v := .tuple #[.agg (zb 32), .int .i64 1]) ?_ rfl ⟨rfl, ((Kept.refl [] w).alloc _).setRow (by simp) _⟩
  exact results_cell_tmp rfl _ _ w.heap.size _ (zb 32) (0, 0) _ rfl (setRow_heap _ _ _ _ _ _ (heap_alloc_new _ _)) Tryd.underlying26 rfl (by rw [zb_size]; exact Tryd.size_dig) _ rfl
end Go.Proofs.YtbbjbpjpejekgaaDoor
