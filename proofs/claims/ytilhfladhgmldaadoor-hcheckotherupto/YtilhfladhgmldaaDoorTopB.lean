import Derived.Test.YtilhfladhgmldaaDoorTopA
import Derived.Test.YtilhfladhgmldaaDoorQKeep
import Derived.Deep.MidRow
import Derived.Test.YtilhfladhgmldaaDoorNTwo
import Derived.Test.YtilhfladhgmldaaDoorSame
import Derived.Test.YtilhfladhgmldaaDoorJoin
namespace Go.Proofs.YtilhfladhgmldaaDoor
open Go.RowKit Go.BigFrame
set_option linter.unusedVariables false
set_option linter.unusedSimpArgs false

set_option maxRecDepth 100000 in
set_option maxHeartbeats 1000000 in
theorem key_all (z : Int) (v : Value) (p : List Nat) (w : World) (hz : -9223372036854775808 ≤ z ∧ z ≤ 9223372036854775807) (h : Rd w v p) (hl : p.length ≤ 140737488351232) (hT : Tabs w) :
    Calls Tryd.prog 18 #[.int .i64 z, v] w fun e w' => e = .returned (.tuple #[.agg (brow (sumD z (2 :: p))), .int .i64 (sumE z)]) ∧ Kept [] w w' := by
  have H := hide h
  have HT := hide hT
  clear h hT
  have hcl := sumD_len z (2 :: p)
  obtain ⟨B, hB⟩ : ∃ B, 2 :: p = B := ⟨_, rfl⟩
  have HB := hide hB
  rw [hB] at hcl ⊢
  clear hB
  obtain ⟨D, hD⟩ : ∃ D, sumD z B = D := ⟨_, rfl⟩
  have HD := hide hD
  rw [hD] at hcl ⊢
  clear hD
  obtain ⟨E, hE⟩ : ∃ E, sumE z = E := ⟨_, rfl⟩
  have HE := hide hE
  rw [hE]
  clear hE
  go_enter Tryd.func18, Tryd.ntmps18
  go_wp2_with fail
  rw [zb32]
  refine Calls.mono (keyInput_any _ p _ ((unhide H).old ((Kept.refl [] w).alloc _) (by simp)) hl) ?_
  rintro e w1 ⟨v1, rfl, n1, k1⟩
  rw [unhide HB] at n1
  have HR1 := hide n1.1
  obtain ⟨a1, m1, c1, hu1, hm1, _⟩ := id n1.1
  subst hu1
  have HZ1 := hide (k1.heap (heap_alloc_new w (.cells (zb 32) 28)) (by simp))
  have HK1 := hide (((Kept.refl [] w).alloc (.cells (zb 32) 28)).trans k1 (by simp))
  clear n1 k1
  go_wp2_with fail
  refine Calls.mono (dsum_all z _ [B] _ hz (RdL.one (heap_alloc_new _ _) ((unhide HR1).old ((Kept.refl [] w1).alloc _) (by simp))) (by have h9 := (unhide HR1).len; simpa using h9) ((unhide HT).k ((unhide HK1).alloc _))) ?_
  rintro e w2 ⟨rfl, k2⟩
  rw [show ([B] : List (List Nat)).flatten = B by simp, unhide HD, unhide HE]
  have HZ2 := hide (k2.heap ((Kept.refl [] w1).alloc (.cells #[.slice a1 m1 c1] 22) |>.heap (unhide HZ1) (by simp)) (by simp))
  have HK2 := hide (((unhide HK1).alloc _).trans k2 (by simp))
  clear k2
  go_wp2_with (refine wpList_store_row rfl 28 _ _ rfl w.heap.size (brow D) rfl rfl _ (zb 32) (unhide HZ2) (by rw [brow_size, hcl]; exact Tryd.size_dig) (by rw [zb_size, brow_size, hcl]) (brow_one _) ?_)
  refine bodyPost_ret (v := .tuple #[.agg (brow D), .int .i64 E]) ?_ rfl ⟨rfl, (unhide HK2).setRow (by simp) _⟩
  exact results_cell_tmp rfl _ _ w.heap.size _ (brow D) (0, 0) _ rfl (setRow_heap _ _ _ _ _ _ (unhide HZ2)) Tryd.underlying28 rfl (by rw [brow_size, hcl]; exact Tryd.size_dig) _ rfl

set_option maxRecDepth 100000 in
set_option maxHeartbeats 1000000 in
theorem bucket_all (z : Int) (v : Value) (ps : List (List Nat × List Nat)) (w : World) (hz : -9223372036854775808 ≤ z ∧ z ≤ 9223372036854775807) (h : RdK w v ps) (hl : (pairB ps).length ≤ 1000000000000) (hT : Tabs w) :
    Calls Tryd.prog 87 #[.int .i64 z, v] w fun e w' => e = .returned (.tuple #[.agg (brow (sumD z (buckB ps))), .int .i64 (sumE z)]) ∧ Kept [] w w' := by
  have H := hide h
  have HT := hide hT
  clear h hT
  have hcl := sumD_len z (buckB ps)
  obtain ⟨B, hB⟩ : ∃ B, buckB ps = B := ⟨_, rfl⟩
  have HB := hide hB
  rw [hB] at hcl ⊢
  clear hB
  obtain ⟨D, hD⟩ : ∃ D, sumD z B = D := ⟨_, rfl⟩
  have HD := hide hD
  rw [hD] at hcl ⊢
  clear hD
  obtain ⟨E, hE⟩ : ∃ E, sumE z = E := ⟨_, rfl⟩
  have HE := hide hE
  rw [hE]
  clear hE
  go_enter Tryd.func87, Tryd.ntmps87
  go_wp2_with fail
  rw [zb32]
  refine Calls.mono (bucketInput_any _ ps _ ((unhide H).old ((Kept.refl [] w).alloc _)) hl) ?_
  rintro e w1 ⟨v1, rfl, n1, k1⟩
  rw [unhide HB] at n1
  have HR1 := hide n1.1
  obtain ⟨a1, m1, c1, hu1, hm1, _⟩ := id n1.1
  subst hu1
  have HZ1 := hide (k1.heap (heap_alloc_new w (.cells (zb 32) 28)) (by simp))
  have HK1 := hide (((Kept.refl [] w).alloc (.cells (zb 32) 28)).trans k1 (by simp))
  clear n1 k1
  go_wp2_with fail
  refine Calls.mono (dsum_all z _ [B] _ hz (RdL.one (heap_alloc_new _ _) ((unhide HR1).old ((Kept.refl [] w1).alloc _) (by simp))) (by have h9 := (unhide HR1).len; simpa using h9) ((unhide HT).k ((unhide HK1).alloc _))) ?_
  rintro e w2 ⟨rfl, k2⟩
  rw [show ([B] : List (List Nat)).flatten = B by simp, unhide HD, unhide HE]
  have HZ2 := hide (k2.heap ((Kept.refl [] w1).alloc (.cells #[.slice a1 m1 c1] 22) |>.heap (unhide HZ1) (by simp)) (by simp))
  have HK2 := hide (((unhide HK1).alloc _).trans k2 (by simp))
  clear k2
  go_wp2_with (refine wpList_store_row rfl 28 _ _ rfl w.heap.size (brow D) rfl rfl _ (zb 32) (unhide HZ2) (by rw [brow_size, hcl]; exact Tryd.size_dig) (by rw [zb_size, brow_size, hcl]) (brow_one _) ?_)
  refine bodyPost_ret (v := .tuple #[.agg (brow D), .int .i64 E]) ?_ rfl ⟨rfl, (unhide HK2).setRow (by simp) _⟩
  exact results_cell_tmp rfl _ _ w.heap.size _ (brow D) (0, 0) _ rfl (setRow_heap _ _ _ _ _ _ (unhide HZ2)) Tryd.underlying28 rfl (by rw [brow_size, hcl]; exact Tryd.size_dig) _ rfl

end Go.Proofs.YtilhfladhgmldaaDoor
namespace Go.Proofs.YtilhfladhgmldaaDoor
open Go.RowKit Go.BigFrame
set_option linter.unusedVariables false
set_option linter.unusedSimpArgs false

def sunD (e : Nat) (z : Int) (p : List Nat) : List Nat := if e = 0 then sumD z p else List.replicate 32 0
def sunE (e : Nat) (z : Int) : Nat := if e = 0 then sumE z else e
theorem sunD_len (e : Nat) (z : Int) (p : List Nat) : (sunD e z p).length = 32 := by
  unfold sunD; split
  · exact sumD_len _ _
  · simp

set_option maxRecDepth 100000 in
set_option maxHeartbeats 1000000 in
theorem sumUnless_any (f : Nat) (z : Int) (v : Value) (p : List Nat) (w : World) (hz : -9223372036854775808 ≤ z ∧ z ≤ 9223372036854775807) (h : Rd w v p) (hT : Tabs w) :
    Calls Tryd.prog 90 #[.int .i64 f, .int .i64 z, v] w fun e w' => e = .returned (.tuple #[.agg (brow (sunD f z p)), .int .i64 (sunE f z)]) ∧ Kept [] w w' := by
  have H := hide h
  obtain ⟨a0, m0, c0, hu0, hm0, _⟩ := id h
  subst hu0
  subst hm0
  have HT := hide hT
  clear h hT
  have hcl := sunD_len f z p
  obtain ⟨D, hD⟩ : ∃ D, sunD f z p = D := ⟨_, rfl⟩
  have HD := hide hD
  rw [hD] at hcl ⊢
  clear hD
  obtain ⟨E, hE⟩ : ∃ E, sunE f z = E := ⟨_, rfl⟩
  have HE := hide hE
  rw [hE]
  clear hE
  have HL := hide (unhide H).len
  go_enter Tryd.func90, Tryd.ntmps90
  by_cases hf : f = 0
  · have hb : ((f : Int) != 0) = false := by rw [hf]; rfl
    have HD2 := hide (by rw [← unhide HD]; unfold sunD; rw [if_pos hf] : D = sumD z p)
    have HE2 := hide (by rw [← unhide HE]; unfold sunE; rw [if_pos hf] : E = sumE z)
    have HF := hide hf
    clear hf
    go_wp2_with fail
    rw [zb32]
    refine Calls.mono (dsum_all z _ [p] _ hz (RdL.one (alloc_at _ _ _) ((unhide H).old (((Kept.refl [] w).alloc _).alloc _) (by simp))) (by have h9 := unhide HL; simpa using h9) ((unhide HT).k (((Kept.refl [] w).alloc _).alloc _))) ?_
    rintro e w2 ⟨rfl, k2⟩
    rw [show ([p] : List (List Nat)).flatten = p by simp, ← unhide HD2, ← unhide HE2]
    have HZ2 := hide (k2.heap (((Kept.refl [] (w.alloc (.cells (zb 32) 28))).alloc (.cells #[.slice a0 p.length c0] 22)).heap (heap_alloc_new w (.cells (zb 32) 28)) (by simp)) (by simp))
    have HK2 := hide ((((Kept.refl [] w).alloc _).alloc _).trans k2 (by simp))
    clear k2
    go_wp2_with (refine wpList_store_row rfl 28 _ _ rfl w.heap.size (brow D) rfl rfl _ (zb 32) (unhide HZ2) (by rw [brow_size, hcl]; exact Tryd.size_dig) (by rw [zb_size, brow_size, hcl]) (brow_one _) ?_)
    refine bodyPost_ret (v := .tuple #[.agg (brow D), .int .i64 E]) ?_ rfl ⟨rfl, (unhide HK2).setRow (by simp) _⟩
    exact results_cell_tmp rfl _ _ w.heap.size _ (brow D) (0, 0) _ rfl (setRow_heap _ _ _ _ _ _ (unhide HZ2)) Tryd.underlying28 rfl (by rw [brow_size, hcl]; exact Tryd.size_dig) _ rfl
  · have hb : ((f : Int) != 0) = true := by rw [bne_iff_ne]; omega
    have HD2 := hide (by rw [← unhide HD]; unfold sunD; rw [if_neg hf] : D = List.replicate 32 0)
    have HE2 := hide (by rw [← unhide HE]; unfold sunE; rw [if_neg hf] : E = f)
    have HF := hide hf
    clear hf
    go_wp2_with (rw [zb32]; refine wpList_store_row rfl 28 _ _ rfl w.heap.size (zb 32) rfl rfl _ (zb 32) (heap_alloc_new _ _) (by rw [zb_size]; exact Tryd.size_dig) rfl (brow_one _) ?_)
    rw [unhide HD2, unhide HE2]
    refine bodyPost_ret (v := .tuple #[.agg (zb 32), .int .i64 f]) ?_ rfl ⟨rfl, ((Kept.refl [] w).alloc _).setRow (by simp) _⟩
    exact results_cell_tmp rfl _ _ w.heap.size _ (zb 32) (0, 0) _ rfl (setRow_heap _ _ _ _ _ _ (heap_alloc_new _ _)) Tryd.underlying28 rfl (by rw [zb_size]; exact Tryd.size_dig) _ rfl
end Go.Proofs.YtilhfladhgmldaaDoor
namespace Go.Proofs.YtilhfladhgmldaaDoor
open Go.RowKit Go.BigFrame
set_option linter.unusedVariables false
set_option linter.unusedSimpArgs false

set_option maxRecDepth 100000 in
set_option maxHeartbeats 1000000 in
theorem branch_all (z : Int) (x : Nat) (v : Value) (ds : List (List Nat)) (w : World) (hz : -9223372036854775808 ≤ z ∧ z ≤ 9223372036854775807) (hx : x < 65536) (h : RdD w v ds) (hT : Tabs w) :
    Calls Tryd.prog 56 #[.int .i64 z, .int .u16 x, v] w fun e w' => e = .returned (.tuple #[.agg (brow (sunD (branchE z x ds) z (branchB z x ds))), .int .i64 (sunE (branchE z x ds) z)]) ∧ Kept [] w w' := by
  have HT := hide hT
  clear hT
  have hcl := sunD_len (branchE z x ds) z (branchB z x ds)
  have HX := hide (by unfold sunD; by_cases h9 : branchE z x ds = 0; rw [if_pos h9, if_pos h9, if_pos h9]; rw [if_neg h9, if_neg h9] : sunD (branchE z x ds) z (if branchE z x ds = 0 then branchB z x ds else []) = sunD (branchE z x ds) z (branchB z x ds))
  obtain ⟨f, hf⟩ : ∃ f, branchE z x ds = f := ⟨_, rfl⟩
  have HF := hide hf
  rw [hf] at hcl HX ⊢
  clear hf
  obtain ⟨D, hD⟩ : ∃ D, sunD f z (branchB z x ds) = D := ⟨_, rfl⟩
  have HD := hide hD
  rw [hD] at hcl HX ⊢
  clear hD
  obtain ⟨E, hE⟩ : ∃ E, sunE f z = E := ⟨_, rfl⟩
  have HE := hide hE
  rw [hE]
  clear hE
  go_enter Tryd.func56, Tryd.ntmps56
  go_wp2_with fail
  rw [zb32]
  refine Calls.mono (branchInput_any z x _ ds _ hz hx (h.old ((Kept.refl [] w).alloc _))) ?_
  rintro e w1 ⟨v1, rfl, n1, k1⟩
  rw [unhide HF] at n1 ⊢
  have HR1 := hide n1.1
  obtain ⟨a1, m1, c1, hu1, hm1, _⟩ := id n1.1
  subst hu1
  have HZ1 := hide (k1.heap (heap_alloc_new w (.cells (zb 32) 28)) (by simp))
  have HK1 := hide (((Kept.refl [] w).alloc (.cells (zb 32) 28)).trans k1 (by simp))
  clear n1 k1 hm1
  go_wp2_with fail
  refine Calls.mono (sumUnless_any f z _ _ w1 hz (unhide HR1) ((unhide HT).k (unhide HK1))) ?_
  rintro e w2 ⟨rfl, k2⟩
  rw [unhide HX, unhide HE]
  have HZ2 := hide (k2.heap (unhide HZ1) (by simp))
  have HK2 := hide ((unhide HK1).trans k2 (by simp))
  clear k2
  go_wp2_with (refine wpList_store_row rfl 28 _ _ rfl w.heap.size (brow D) rfl rfl _ (zb 32) (unhide HZ2) (by rw [brow_size, hcl]; exact Tryd.size_dig) (by rw [zb_size, brow_size, hcl]) (brow_one _) ?_)
  refine bodyPost_ret (v := .tuple #[.agg (brow D), .int .i64 E]) ?_ rfl ⟨rfl, (unhide HK2).setRow (by simp) _⟩
  exact results_cell_tmp rfl _ _ w.heap.size _ (brow D) (0, 0) _ rfl (setRow_heap _ _ _ _ _ _ (unhide HZ2)) Tryd.underlying28 rfl (by rw [brow_size, hcl]; exact Tryd.size_dig) _ rfl

end Go.Proofs.YtilhfladhgmldaaDoor
/-
  A row in the midst of a block, read within a quiet walk.
-/
namespace Go.Proofs.YtilhfladhgmldaaDoor
open Go Go.RowKit Go.BigFrame

theorem wpQuiet_mid {P : Program} {ops : Array Oper} {C : World → Prop} {Q : Act → Prop} {a : Act} {o : Oper} {rest : List Oper} (hw : Region.wanted o (yielded ops a.tmps) = true) (ty : TypeId) (x : Operand) (ho : o.op = .load ty x)
    (b off : Nat) (hx : a.eval x = .pointer (some ⟨b, off, none⟩)) (cs : List Value) (d : TypeDesc) (hg : ∀ w, C w → w.rangeAt b off cs)
    (hu : P.underlying ty = some d) (hd : d.isRow = true) (hi : (P.info? ty).map (·.size) = some cs.length)
    (h : wpQuiet P ops C Q rest (a.put o.dst (.agg cs.toArray))) : wpQuiet P ops C Q (o :: rest) a := by
  refine wpQuiet_want hw fun K hK => ⟨.agg cs.toArray, fun w hw => ?_, hK _ h⟩
  unfold Oper.quietAt execOp
  simp only [ho]
  have := run_loadVar_mid (P := P) w b off ty cs d (hg w hw) hu hd hi
  simp only [hx, Instr.loadAt, Instr.sureAddr, Sem.run_bind, Sem.run_pure, Result.andThen_ok, this, Oper.quietUpon, and_self]
end Go.Proofs.YtilhfladhgmldaaDoor
namespace Go.Proofs.YtilhfladhgmldaaDoor
theorem RdD.nil_len {w : World} {ao : Option Addr} {len cap : Nat} {ds : List (List Nat)} (h : RdD w (.slice ao len cap) ds) : ds.length = len := by
  obtain ⟨_, _, _, e, h1, _⟩ := h
  cases e; exact h1
theorem RdD.dg {w : World} {v : Value} {ds : List (List Nat)} (h : RdD w v ds) {d : List Nat} (hd : d ∈ ds) : Dg d := by
  obtain ⟨ao', len', cap', e, h1, h2, h3, h4, h5⟩ := h
  exact h4 d hd
end Go.Proofs.YtilhfladhgmldaaDoor
namespace Go.Proofs.YtilhfladhgmldaaDoor
open Go.RowKit Go.BigFrame
set_option linter.unusedVariables false
set_option linter.unusedSimpArgs false

/-- The cells of digests in a row. -/
def flatD (ds : List (List Nat)) : List Value := (ds.map fun d => d.map u8).flatten
theorem flatD_len {ds : List (List Nat)} (h : ∀ d ∈ ds, d.length = 32) : (flatD ds).length = ds.length * 32 := by
  induction ds with
  | nil => rfl
  | cons d r ih =>
    have := ih (fun x hx => h x (by simp [hx]))
    simp only [flatD, List.map_cons, List.flatten_cons, List.length_append, List.length_map, List.length_cons] at this ⊢
    rw [this, h d (by simp)]; omega
theorem flatD_app (a b : List (List Nat)) : flatD (a ++ b) = flatD a ++ flatD b := by simp [flatD]
theorem flatD_one (ds : List (List Nat)) : ∀ v ∈ flatD ds, v.oneCell' = true := by
  intro v hv
  simp only [flatD, List.mem_flatten, List.mem_map] at hv
  obtain ⟨l, ⟨d, _, rfl⟩, h⟩ := hv
  exact u8_oneCell d v h
theorem flatD_at {ds : List (List Nat)} (h : ∀ d ∈ ds, d.length = 32) : ∀ (i : Nat), i < ds.length → ∀ j, j < 32 → (flatD ds)[i * 32 + j]? = ((ds.getD i []).map u8)[j]? := by
  induction ds with
  | nil => intro i hi; simp at hi
  | cons d r ih =>
    intro i hi j hj
    have hd := h d (by simp)
    have e : flatD (d :: r) = d.map u8 ++ flatD r := by simp [flatD]
    rw [e]
    cases i with
    | zero =>
      rw [Nat.zero_mul, Nat.zero_add, List.getElem?_append_left (by simp [hd]; exact hj)]; rfl
    | succ i =>
      rw [List.getElem?_append_right (by simp [hd]; omega), List.length_map, hd, show (i + 1) * 32 + j - 32 = i * 32 + j by omega, ih (fun x hx => h x (by simp [hx])) i (by simpa using hi) j hj]
      rfl
theorem RdD.news {w : World} {b off n c : Nat} {ds : List (List Nat)} (h : RdD w (.slice (some ⟨b, off, none⟩) n c) ds) : ∀ j u, (flatD ds)[j]? = some u → w.cell? ((⟨b, off, none⟩ : Addr).add j) = some u := by
  obtain ⟨ao', len', cap', e, h1, h2, h3, h4, h5⟩ := h
  cases e
  intro j u hu
  have hl := flatD_len (fun d hd => (h4 d hd).1)
  have hj := (List.getElem?_eq_some_iff.1 hu).1
  have hp : 0 < n := by
    rcases Nat.eq_zero_or_pos n with h0 | h0
    · rw [hl, h1, h0] at hj; omega
    · exact h0
  obtain ⟨b', off', e, hc⟩ := h5 hp
  cases e
  have hi : j / 32 < ds.length := by omega
  have hq := flatD_at (fun d hd => (h4 d hd).1) (j / 32) hi (j % 32) (Nat.mod_lt _ (by decide))
  rw [show j / 32 * 32 + j % 32 = j by omega, hu] at hq
  have := hc (j / 32) (by omega) (j % 32) u hq.symm
  rw [Addr.add_mid]
  rw [show off + j / 32 * 32 + j % 32 = off + j by omega] at this
  exact this
theorem rdd_owns {w : World} {base : Nat} {v : Value} {ds : List (List Nat)} (h : w.ownsRow base 28 32 v ds.length (flatD ds)) (hd : ∀ d ∈ ds, Dg d) : RdD w v ds := by
  rcases h.2 with ⟨rfl, h0⟩ | ⟨g, cap, cur, rfl, _, hg, h1, h2, h3, h4⟩
  · exact ⟨none, 0, 0, rfl, h0, Nat.le_refl _, by omega, hd, fun h => by omega⟩
  · refine ⟨_, ds.length, cap, rfl, rfl, h1, by unfold maxLen at h2; omega, hd, fun hp => ⟨g, 0, rfl, fun i hi j v hv => ?_⟩⟩
    have hj : j < 32 := by
      have := (List.getElem?_eq_some_iff.1 hv).1
      rw [List.length_map, List.getD_eq_getElem?_getD, List.getElem?_eq_getElem hi] at this
      rw [← (hd ds[i] (List.getElem_mem hi)).1]; exact this
    have hq := flatD_at (fun d hd' => (hd d hd').1) i hi j hj
    rw [Nat.zero_add, cell_of_row _ _ _ _ _ _ hg, ← hv, ← hq, ← h4, List.getElem?_take_of_lt (by omega), Array.getElem?_toList]

theorem Tryd.infoD : (Tryd.prog.info? 28).map (fun i => (i.zero, i.size, i.bytes)) = some (some (.agg (zb 32)), 32, 32) := by kernel_rfl

theorem owns_form {w : World} {base : Nat} {e : TypeId} {size n : Nat} {v : Value} {xs : List Value} (h : w.ownsRow base e size v n xs) : ∃ ao cap, v = .slice ao n cap := by
  rcases h.2 with ⟨rfl, rfl⟩ | ⟨g, cap, cur, rfl, _⟩
  · exact ⟨none, 0, rfl⟩
  · exact ⟨_, cap, rfl⟩
theorem append_none {P : Program} {w : World} (base : Nat) (t ty e : TypeId) (i : TypeInfo) (size c : Nat) (ht : P.underlying t = some (.slice e)) (hi : P.info? e = some i)
    (v : Value) (n : Nat) (xs : List Value) (hown : w.ownsRow base e size v n xs) :
    (Builtin.append_ #[t, t] ty #[v, .slice none 0 c]).run P w = .ok v w := by
  rcases hown.2 with ⟨rfl, rfl⟩ | ⟨g, cap, cur, rfl, _, _, hnc, _⟩
  · simp [Builtin.append_, run_underlying ht, sizeOf, typeInfo, hi, Builtin.lenOf, Builtin.firstCells]
  · simp [Builtin.append_, run_underlying ht, sizeOf, typeInfo, hi, Builtin.lenOf, Builtin.firstCells, hnc, storeCells]

theorem appendD (w : World) (base : Nat) (v : Value) (ds ps : List (List Nat)) (ao : Option Addr) (n c : Nat) (h : w.ownsRow base 28 32 v ds.length (flatD ds)) (hr : RdD w (.slice ao n c) ps) (hl : ds.length + ps.length ≤ 1000000000000) (hb : base ≤ w.heap.size) :
    ∃ ao' cap' w1, (Builtin.append_ #[49, 49] 49 #[v, .slice ao n c]).run Tryd.prog w = .ok (.slice ao' (ds.length + ps.length) cap') w1 ∧
      w1.ownsRow base 28 32 (.slice ao' (ds.length + ps.length) cap') (ds ++ ps).length (flatD (ds ++ ps)) ∧ w.grownBy w1 v.ownBlock := by
  obtain ⟨i0, hi, hz0, hz1, hz2⟩ := info_parts Tryd.infoD
  have hn := hr.nil_len
  have hdg : ∀ d ∈ ps, d.length = 32 := fun d hd => (hr.dg hd).1
  rw [flatD_app, List.length_append]
  by_cases h0 : n = 0
  · subst h0
    have hp : ps = [] := List.eq_nil_of_length_eq_zero hn
    subst hp
    cases ao with
    | none =>
      have hrun := append_none (P := Tryd.prog) (w := w) base 49 49 28 i0 32 c Tryd.underlying49 hi v ds.length (flatD ds) h
      obtain ⟨ao', cap', rfl⟩ := owns_form h
      exact ⟨ao', cap', w, hrun, by simpa [flatD] using h, World.grownBy.refl _ _⟩
    | some ad =>
      obtain ⟨v', w1, hrun, hown, hgrow, _, hat⟩ := run_append_own_at (P := Tryd.prog) w base 49 49 28 i0 (.agg (zb 32)) 32 32 Tryd.underlying49 hi hz0 hz1 hz2 (by show (zb 32).size = 32; exact zb_size 32) (by decide)
        v ds.length (flatD ds) h ad 0 c (flatD []) (by simp [flatD]) (by intro j u hj; simp [flatD] at hj) (flatD_one _) (by unfold maxLen; omega) (by omega) hb
      obtain ⟨ao', cap', rfl⟩ := owns_form hown
      exact ⟨ao', cap', w1, hrun, hown, hgrow⟩
  · have hr' := hr
    obtain ⟨ao1, n1, c1, he, h1, h2, h3, h4, h5⟩ := hr'
    cases he
    obtain ⟨b, off, rfl, hc⟩ := h5 (by omega)
    obtain ⟨v', w1, hrun, hown, hgrow, _, hat⟩ := run_append_own_at (P := Tryd.prog) w base 49 49 28 i0 (.agg (zb 32)) 32 32 Tryd.underlying49 hi hz0 hz1 hz2 (by show (zb 32).size = 32; exact zb_size 32) (by decide)
      v ds.length (flatD ds) h ⟨b, off, none⟩ n c (flatD ps) (by rw [flatD_len hdg, hn]) hr.news (flatD_one _) (by unfold maxLen; omega) (by omega) hb
    subst h1
    obtain ⟨ao', cap', rfl⟩ := owns_form hown
    exact ⟨ao', cap', w1, hrun, hown, hgrow⟩

theorem wpList_appendD {ops : Array Oper} {rest : List Oper} {o : Oper} {a : Act} {Q : Exit → Act → World → Prop} (hgd : o.guard = none) (s x : Operand)
    (ho : o.op = .call { callee := .builtin .append, args := #[s, x], argTypes := #[49, 49] }) (hty : o.type = 49)
    (w : World) (base : Nat) (v : Value) (ds ps : List (List Nat)) (ao : Option Addr) (n c : Nat) (h : w.ownsRow base 28 32 v ds.length (flatD ds)) (hr : RdD w (.slice ao n c) ps) (hl : ds.length + ps.length ≤ 1000000000000) (hb : base ≤ w.heap.size)
    (hs : a.eval s = v) (hx : a.eval x = .slice ao n c)
    (hK : ∀ ao' cap' w1, Hid (w1.ownsRow base 28 32 (.slice ao' (ds.length + ps.length) cap') (ds ++ ps).length (flatD (ds ++ ps))) → Hid (w.grownBy w1 v.ownBlock) →
      wpList Tryd.prog ops Q rest (a.put o.dst (.slice ao' (ds.length + ps.length) cap')) w1) :
    wpList Tryd.prog ops Q (o :: rest) a w := by
  obtain ⟨ao', cap', w1, hrun, h2, h3⟩ := appendD w base v ds ps ao n c h hr hl hb
  refine wpList_plain hgd fun K hK' => ?_
  unfold Oper.wp execOp
  simp only [ho, hty, resolve, invoke, builtin, Sem.run_bind, Sem.run_pure, Result.andThen_ok, List.map_toArray, List.map_cons, List.map_nil, hs, hx, hrun]
  exact hK' _ _ (hK ao' cap' w1 h2 h3)

end Go.Proofs.YtilhfladhgmldaaDoor
/-
  hcheck: steps as they lie, and what its functions answer.
-/
namespace Go.Proofs.YtilhfladhgmldaaDoor
open Go.RowKit Go.BigFrame
set_option linter.unusedVariables false
set_option linter.unusedSimpArgs false

def RdS (w : World) (v : Value) (ss : List (Nat × List (List Nat))) : Prop :=
  ∃ (ao : Option Addr) (len cap : Nat) (vs : List Value), v = .slice ao len cap ∧ ss.length = len ∧ len ≤ cap ∧ cap ≤ 9223372036854775807 ∧ (∀ i, i < len → (ss.getD i (0, [])).1 < 65536 ∧ RdD w (vs.getD i undef) (ss.getD i (0, [])).2) ∧
    (0 < len → ∃ b off, ao = some ⟨b, off, none⟩ ∧ ∀ i, i < len → w.cell? ⟨b, off + i * 2, none⟩ = some (.int .u16 ((ss.getD i (0, [])).1 : Int)) ∧ w.cell? ⟨b, off + i * 2 + 1, none⟩ = some (vs.getD i undef))
theorem RdS.old {w w' : World} {v : Value} {ss : List (Nat × List (List Nat))} (h : RdS w v ss) (k : Kept [] w w') : RdS w' v ss := by
  obtain ⟨ao, len, cap, vs, h1, h2, h4, h5, h6, h7⟩ := h
  refine ⟨ao, len, cap, vs, h1, h2, h4, h5, fun i hi => ⟨(h6 i hi).1, (h6 i hi).2.old k⟩, fun hp => ?_⟩
  obtain ⟨b, off, e, hc⟩ := h7 hp
  exact ⟨b, off, e, fun i hi => ⟨k.cell (hc i hi).1 (by simp), k.cell (hc i hi).2 (by simp)⟩⟩
/-- The digest of a key. -/
def keyS (z : Int) (key : List Nat) : List Nat := sumD z (2 :: key)
/-- What formed answers. -/
def hfE (z : Int) (key : List Nat) (known : List (List Nat)) (ss : List (Nat × List (List Nat))) : Nat :=
  if widthB z = false then 1 else if 64 < key.length then 2 else if known.all (formB z) && ss.all (fun s => s.2.all (formB z)) then 0 else 3
/-- What fits answers. -/
def fitS (b n : Nat) (c : Int) (t : Bool) : Bool := decide (b ≠ 0) && ((hasB b c == t) && decide (cnt b 16 = n + (if t then 1 else 0)))
/-- What rising answers. -/
def risB (ps : List (List Nat × List Nat)) : Nat → Bool
  | 0 => true
  | i + 1 => risB ps i && (decide ((ps.getD i ([], [])).1.length ≤ 64) && (decide ((ps.getD i ([], [])).2.length ≤ 256) && (decide (i = 0) || decide (ordL (ps.getD (i - 1) ([], [])).1 (ps.getD i ([], [])).1 < 0))))
/-- What hang answers. -/
def hanB (z : Int) (ks : List Nat) (n : Nat) (ps : List (List Nat × List Nat)) : Bool :=
  (ps.drop 1).all (fun p => decide (keyS z p.1 = keyS z (ps.getD 0 ([], [])).1)) && decide (n ≤ comC z (keyS z (ps.getD 0 ([], [])).1) ks)
/-- Whether each of the first steps fits. -/
def fitsB (z : Int) (ks : List Nat) (ss : List (Nat × List (List Nat))) (m : Nat) : Nat → Bool
  | 0 => true
  | i + 1 => fitsB z ks ss m i && fitS (ss.getD i (0, [])).1 (ss.getD i (0, [])).2.length (atC z ks i) (decide (i + 1 < ss.length) || decide (0 < m))
/-- What proves answers. -/
def provB (z : Int) (ks : List Nat) (ss : List (Nat × List (List Nat))) (ps : List (List Nat × List Nat)) : Bool :=
  decide (ss.length ≤ 2 * z.toNat) && (fitsB z ks ss ps.length ss.length &&
    (decide (ps.length = 0) || ((decide (ss.length = 0) || decide (cnt (ss.getD (ss.length - 1) (0, [])).1 16 ≠ 1)) && (risB ps ps.length && hanB z ks ss.length ps))))
/-- The value of a key in pairs. -/
def valH (key : List Nat) : List (List Nat × List Nat) → Option (List Nat)
  | [] => none
  | p :: r => if p.1 = key then some p.2 else valH key r
def brD (z : Int) (x : Nat) (ds : List (List Nat)) : List Nat := sunD (branchE z x ds) z (branchB z x ds)
/-- What climb makes of the k lowest steps that are left. -/
def cliD (z : Int) (ks : List Nat) (ss : List (Nat × List (List Nat))) : Nat → List Nat → List Nat
  | 0, d => d
  | k + 1, d => cliD z ks ss k (brD z (ss.getD k (0, [])).1 ((ss.getD k (0, [])).2.take (rankB (ss.getD k (0, [])).1 (atC z ks k)) ++ d :: (ss.getD k (0, [])).2.drop (rankB (ss.getD k (0, [])).1 (atC z ks k))))
def footD (z : Int) (ss : List (Nat × List (List Nat))) (ps : List (List Nat × List Nat)) : List Nat :=
  if 0 < ps.length then sumD z (buckB ps) else if ss.length = 0 then sumD z [5] else brD z (ss.getD (ss.length - 1) (0, [])).1 (ss.getD (ss.length - 1) (0, [])).2
def footN (ss : List (Nat × List (List Nat))) (ps : List (List Nat × List Nat)) : Nat := if 0 < ps.length then ss.length else ss.length - 1
def rooD (z : Int) (key : List Nat) (ss : List (Nat × List (List Nat))) (ps : List (List Nat × List Nat)) : List Nat := cliD z (keyS z key) ss (footN ss ps) (footD z ss ps)
theorem keyS_dg (z : Int) (key : List Nat) : Dg (keyS z key) := ⟨sumD_len _ _, by
  unfold keyS sumD
  split
  · exact cutL_byte _ _ (hash_byte _)
  · intro x hx; simp at hx; omega⟩
end Go.Proofs.YtilhfladhgmldaaDoor
namespace Go.Proofs.YtilhfladhgmldaaDoor
open Go.RowKit Go.BigFrame
set_option linter.unusedVariables false
set_option linter.unusedSimpArgs false

set_option maxRecDepth 100000 in
set_option maxHeartbeats 1000000 in
theorem grow_any (n : Nat) (w : World) (hn : n ≤ 1000000000000) :
    Calls Tryd.prog 89 #[.slice none 0 0, .int .i64 n] w fun e w' => ∃ v', e = .returned v' ∧ w'.ownsRow w.heap.size 28 32 v' 0 [] ∧ Kept [] w w' := by
  go_enter Tryd.func89, Tryd.ntmps89
  by_cases h0 : n = 0
  · subst h0
    go_wp2
    go_ret
    exact ⟨_, rfl, ⟨rfl, Or.inl ⟨rfl, rfl⟩⟩, Kept.refl _ _⟩
  · have h0' : (0 : Int) < n := by omega
    have hbt : Tryd.t28.bytes = 32 := rfl
    have hns : ¬ 281474976710656 < Builtin.nextslicecap n 0 * Tryd.t28.bytes := by
      rw [hbt]; unfold Builtin.nextslicecap; rw [if_pos (by omega)]; omega
    have hmul : (n : Int) * ((Tryd.t28.bytes : Nat) : Int) ≤ 281474976710656 := by rw [hbt]; omega
    have hm0 : ¬ n * 32 = 0 := by omega
    clear hbt
    go_wp2_with fail
    have hg1 := grownCap_ge w n 0 28
    have hg2 := grownCap_le_maxLen w n 0 28 (by unfold maxLen; omega)
    unfold grownCap at hg1 hg2
    generalize (Question.appendCap n 0 28).cut (w.tape w.drawn (Question.appendCap n 0 28)) = cap at hg1 hg2 ⊢
    go_ret
    refine ⟨_, rfl, World.ownsRow_made w _ cap (Nat.le_refl _) hg2 ?_, ((Kept.refl [] w).alloc _).drew⟩
    rw [Array.size_append, size_zeroCells, size_zeroCells]
    simp
    omega

/-- Lists of digests as they lie. -/
def RdM (w : World) (v : Value) (L : List (List (List Nat))) : Prop :=
  ∃ (ao : Option Addr) (len cap : Nat) (vs : List Value), v = .slice ao len cap ∧ L.length = len ∧ len ≤ cap ∧ cap ≤ 9223372036854775807 ∧ (∀ i, i < len → RdD w (vs.getD i undef) (L.getD i [])) ∧
    (0 < len → ∃ b off, ao = some ⟨b, off, none⟩ ∧ ∀ i, i < len → w.cell? ⟨b, off + i, none⟩ = some (vs.getD i undef))
theorem RdM.cells {w : World} {ao : Option Addr} {len cap : Nat} {L : List (List (List Nat))} (h : RdM w (.slice ao len cap) L) : L.length = len ∧ len ≤ cap ∧ cap ≤ 9223372036854775807 ∧
    ∀ i, i < len → ∃ b off u, ao = some ⟨b, off, none⟩ ∧ w.cell? ⟨b, off + i, none⟩ = some u ∧ RdD w u (L.getD i []) := by
  obtain ⟨ao', len', cap', vs, he, h1, h2, h3, h4, h5⟩ := h
  cases he
  refine ⟨h1, h2, h3, fun i hi => ?_⟩
  obtain ⟨b, off, rfl, hc⟩ := h5 (by omega)
  exact ⟨b, off, _, rfl, hc i hi, h4 i hi⟩
theorem flat_take (L : List (List (List Nat))) (i : Nat) (h : i < L.length) : (L.take (i + 1)).flatten = (L.take i).flatten ++ L.getD i [] := by
  rw [List.take_succ_eq_append_getElem h, List.flatten_append, List.getD_eq_getElem?_getD, List.getElem?_eq_getElem h]
  simp
theorem flatM_le (L : List (List (List Nat))) (i : Nat) : (L.take i).flatten.length ≤ L.flatten.length := by
  have h := congrArg List.length (congrArg List.flatten (List.take_append_drop i L))
  rw [List.flatten_append, List.length_append] at h
  omega
theorem flat_dg {L : List (List (List Nat))} (h : ∀ l ∈ L, ∀ d ∈ l, Dg d) : ∀ d ∈ L.flatten, Dg d := by
  intro d hd
  obtain ⟨l, hl, hdl⟩ := List.mem_flatten.1 hd
  exact h l hl d hdl

set_option maxRecDepth 100000 in
set_option maxHeartbeats 1000000 in
theorem concat_any (v : Value) (L : List (List (List Nat))) (w : World) (h : RdM w v L) (hl : L.flatten.length ≤ 1000000000000) :
    Calls Tryd.prog 55 #[v] w fun e w' => ∃ v', e = .returned v' ∧ RdD w' v' L.flatten ∧ Kept [] w w' := by
  obtain ⟨ao, n, c, _, rfl, _⟩ := id h
  obtain ⟨h1, h2, h3, h4⟩ := h.cells
  have HDG := hide (by
    intro l hl' d hd
    obtain ⟨j, hj, rfl⟩ := List.getElem_of_mem hl'
    obtain ⟨_, _, u, _, _, r⟩ := h4 j (by omega)
    rw [List.getD_eq_getElem?_getD, List.getElem?_eq_getElem hj] at r
    exact r.dg hd : ∀ l ∈ L, ∀ d ∈ l, Dg d)
  have H4 := hide h4
  clear h4 h
  subst h1
  go_enter Tryd.func55, Tryd.ntmps55
  go_wp2_with fail
  go_loopw [3, 11] (fun t3 t11 wr => ∃ (i : Nat), i ≤ L.length ∧ t11 = .int .i64 i ∧ t3 = .int .i64 (((L.take i).flatten.length : Nat) : Int) ∧ Hid (wr = w)) (fun _ t _ => L.length - (intOf t).toNat)
  case atStart => exact ⟨0, Nat.zero_le _, rfl, rfl, hide rfl⟩
  case round =>
    obtain ⟨i, hi, rfl, rfl, HWR⟩ := hrel
    by_cases hlt : i < L.length
    · have hlt' : (i : Int) < L.length := by omega
      obtain ⟨b, o, u, rfl, c1, r1⟩ := unhide H4 i hlt
      have q1 : wr.cell? ⟨b, o + i, none⟩ = some u := by rw [unhide HWR]; exact c1
      have HFT := hide (flat_take L i hlt)
      have HLE := hide (flatM_le L (i + 1))
      rw [unhide HFT] at HLE
      clear c1
      generalize L.getD i [] = li at r1 HFT HLE
      obtain ⟨a8, m8, c8, rfl, hm8, _⟩ := id r1
      subst hm8
      clear r1
      obtain ⟨S, hS⟩ : ∃ S, (L.take i).flatten.length = S := ⟨_, rfl⟩
      have HNX := hide (by rw [unhide HFT, List.length_append, hS] : (L.take (i + 1)).flatten.length = S + li.length)
      have hsb : S + li.length ≤ 1000000000000 := by have h9 := unhide HLE; rw [List.length_append, hS] at h9; omega
      rw [hS]
      clear hS HLE HFT
      have hs0 : ¬ ((S : Int) + li.length) < 0 := by omega
      go_wp2
      refine ⟨⟨i + 1, hlt, by go_num, by rw [unhide HNX]; go_num, HWR⟩, ?_⟩
      simp [intOf]; omega
    · have hi' : i = L.length := by omega
      have hlt' : ¬ (i : Int) < L.length := by omega
      have HTL := hide (by rw [hi', List.take_length] : (L.take i).flatten.length = L.flatten.length)
      obtain ⟨M, hM⟩ : ∃ M, L.flatten.length = M := ⟨_, rfl⟩
      rw [unhide HTL, hM]
      have hl2 : M ≤ 1000000000000 := by rw [← hM]; exact hl
      have HL := hide hl
      clear hi' HTL hM hl
      go_wp2_with fail
      rw [unhide HWR]
      refine Calls.mono (grow_any M _ hl2) ?_
      rintro e w1 ⟨v1, rfl, ho, k1⟩
      have HO1 := hide ho
      have HK1 := hide k1
      clear ho k1
      go_wp2_with fail
      go_loopw [6, 27] (fun t6 t27 wz => ∃ (j : Nat), j ≤ L.length ∧ t27 = .int .i64 j ∧ Hid (wz.ownsRow w.heap.size 28 32 t6 (L.take j).flatten.length (flatD (L.take j).flatten)) ∧ Hid (Kept [] w wz)) (fun _ t _ => L.length - (intOf t).toNat)
      case atStart => exact ⟨0, Nat.zero_le _, rfl, by simpa [flatD] using HO1, HK1⟩
      case round =>
        obtain ⟨j, hj, rfl, HO, HK⟩ := hrel
        by_cases hjt : j < L.length
        · have hjt' : (j : Int) < L.length := by omega
          obtain ⟨b, o, u, rfl, c1, r1⟩ := unhide H4 j hjt
          have q1 := (unhide HK).cell c1 (by simp)
          have HR := hide (r1.old (unhide HK))
          have HFT := hide (flat_take L j hjt)
          have HLE := hide (flatM_le L (j + 1))
          rw [unhide HFT] at HLE
          clear c1 r1
          generalize L.getD j [] = li at HR HFT HLE
          obtain ⟨a8, m8, c8, rfl, hm8, _⟩ := id (unhide HR)
          subst hm8
          obtain ⟨D, hD⟩ : ∃ D, (L.take j).flatten = D := ⟨_, rfl⟩
          rw [hD] at HO HFT HLE
          clear hD
          have hsb : D.length + li.length ≤ 1000000000000 := by have h9 := unhide HLE; have h8 := unhide HL; rw [List.length_append] at h9; omega
          have hbz := (unhide HK).size
          obtain ⟨a6, c6, rfl⟩ := owns_form (unhide HO)
          go_wp2_with (at_builtin; refine wpList_appendD rfl (.tmp 31) (.tmp 32) rfl rfl _ w.heap.size (.slice a6 D.length c6) D li a8 li.length c8 (unhide HO) (unhide HR) hsb hbz rfl rfl ?_; intro ao1 cap1 w2 HO2 HG2; have HK2 := hide ((unhide HK).grown (unhide HG2) (by intro k hk; right; exact ((unhide HO).lt k hk).1)); clear HG2)
          refine ⟨⟨j + 1, hjt, by go_num, by rw [unhide HFT]; exact by simpa using HO2, HK2⟩, ?_⟩
          simp [intOf]; omega
        · have hj' : j = L.length := by omega
          have hjt' : ¬ (j : Int) < L.length := by omega
          have HO2 := hide (by have h9 := unhide HO; rw [hj', List.take_length] at h9; exact h9)
          clear hj' HO
          go_wp2
          go_ret
          exact ⟨_, rfl, rdd_owns (unhide HO2) (flat_dg (unhide HDG)), unhide HK⟩
end Go.Proofs.YtilhfladhgmldaaDoor
namespace Go.Proofs.YtilhfladhgmldaaDoor
open Go.RowKit Go.BigFrame
set_option linter.unusedVariables false
set_option linter.unusedSimpArgs false

set_option maxRecDepth 100000 in
set_option maxHeartbeats 1000000 in
theorem unlike_any (z : Int) (g : Nat) (d : List Nat) (w : World) (hz : -9223372036854775808 ≤ z ∧ z ≤ 9223372036854775807) (hd : Dg d) (hg : w.heap[g]? = some (.cells #[.int .i64 z] 3 (0, 0))) :
    Calls Tryd.prog 45 #[.agg (brow d), .pointer (some ⟨g, 0, none⟩)] w fun e w' => e = .returned (.bool (!formB z d)) ∧ Kept [] w w' := by
  have hdl := hd.1
  have HSZ := hide (Tryd.szD hdl)
  have HK0 := hide ((Kept.refl [] w).alloc (.cells (brow d) 28))
  have HGA := hide (heap_alloc_new w (.cells (brow d) 28))
  have c0 : (w.alloc (.cells (brow d) 28)).cell? ⟨g, 0, none⟩ = some (.int .i64 z) := cell_of_row _ g 0 _ _ _ ((unhide HK0).heap hg (by simp))
  go_enter Tryd.func45, Tryd.ntmps45
  go_wp2_with (refine wpList_load_row rfl 28 _ rfl w.heap.size rfl _ (brow d) (0, 0) _ (unhide HGA) Tryd.underlying28 rfl (unhide HSZ) ?_)
  refine Calls.mono (form_any z d _ hz hdl hd.2) ?_
  rintro e w1 ⟨rfl, k1⟩
  have HK1 := hide ((unhide HK0).trans k1 (by simp))
  clear k1 c0
  cases hF : formB z d with
  | true => go_wp2; go_ret; exact ⟨by rw [hF]; rfl, unhide HK1⟩
  | false => go_wp2; go_ret; exact ⟨by rw [hF]; rfl, unhide HK1⟩

set_option maxRecDepth 100000 in
set_option maxHeartbeats 1000000 in
theorem indexFunc_any (z : Int) (g : Nat) (v : Value) (ds : List (List Nat)) (w : World) (hz : -9223372036854775808 ≤ z ∧ z ≤ 9223372036854775807) (hv : RdD w v ds) (hg : w.heap[g]? = some (.cells #[.int .i64 z] 3 (0, 0))) :
    Calls Tryd.prog 84 #[v, .func (.func 45) #[] #[.pointer (some ⟨g, 0, none⟩)]] w fun e w' => (∃ r : Int, e = .returned (.int .i64 r) ∧ -1 ≤ r ∧ r ≤ 9223372036854775807 ∧ (0 ≤ r ↔ ds.all (formB z) = false)) ∧ Kept [] w w' := by
  obtain ⟨ao, len, cap, rfl, h1, h2, h3, h4, h5⟩ := hv
  have H4 := hide h4
  have H5 := hide h5
  clear h4 h5
  subst h1
  go_enter Tryd.func84, Tryd.ntmps84
  go_wp2_with fail
  go_loopw [8] (fun t8 wr => ∃ (i : Nat), i ≤ ds.length ∧ t8 = .int .i64 i ∧ Hid ((ds.take i).all (formB z) = true) ∧ Hid (Kept [] w wr)) (fun t _ => ds.length - (intOf t).toNat)
  case atStart => exact ⟨0, Nat.zero_le _, rfl, hide (by simp), hide (Kept.refl _ _)⟩
  case round =>
    obtain ⟨i, hi, rfl, HA, HK⟩ := hrel
    by_cases hlt : i < ds.length
    · have hlt' : (i : Int) < ds.length := by omega
      obtain ⟨b, o, rfl, hcell⟩ := unhide H5 (by omega)
      have HD := hide (unhide H4 (ds.getD i []) (by rw [List.getD_eq_getElem?_getD, List.getElem?_eq_getElem hlt]; exact List.getElem_mem hlt))
      have HRG := hide (fun j v hv => (unhide HK).cell (hcell i hlt j v hv) (by simp) : wr.rangeAt b (o + i * 32) ((ds.getD i []).map u8))
      have HN := hide (by rw [List.take_succ_eq_append_getElem hlt, List.all_append, unhide HA, List.getD_eq_getElem?_getD, List.getElem?_eq_getElem hlt]; simp : (ds.take (i + 1)).all (formB z) = formB z (ds.getD i []))
      have HM := hide (fun (h : formB z (ds.getD i []) = false) => by
        rw [List.all_eq_false]
        exact ⟨ds.getD i [], by rw [List.getD_eq_getElem?_getD, List.getElem?_eq_getElem hlt]; exact List.getElem_mem hlt, by rw [h]; decide⟩ : formB z (ds.getD i []) = false → ds.all (formB z) = false)
      clear hcell
      obtain ⟨d, hd⟩ : ∃ d, ds.getD i [] = d := ⟨_, rfl⟩
      rw [hd] at HD HRG HN HM
      clear hd
      have hdl := (unhide HD).1
      have HSZ := hide (by rw [List.length_map, hdl]; exact Tryd.size_dig : (Tryd.prog.info? 28).map (·.size) = some (d.map u8).length)
      go_wp2_with (refine wpList_load_mid rfl 28 _ rfl b (o + i * 32) rfl (d.map u8) _ (unhide HRG) Tryd.underlying28 rfl (unhide HSZ) ?_)
      refine Calls.mono (unlike_any z g d _ hz (unhide HD) ((unhide HK).heap hg (by simp))) ?_
      rintro e w1 ⟨rfl, k1⟩
      have HK1 := hide ((unhide HK).trans k1 (by simp))
      clear k1
      generalize formB z d = F at HN HM ⊢
      cases F with
      | true =>
        go_wp2
        refine ⟨⟨i + 1, hlt, by go_num, HN, HK1⟩, ?_⟩
        simp [intOf]; omega
      | false =>
        go_wp2
        go_ret
        exact ⟨⟨i, rfl, by omega, by omega, ⟨fun _ => unhide HM (by simp), fun _ => by omega⟩⟩, unhide HK1⟩
    · have hi' : i = ds.length := by omega
      subst hi'
      have HA2 := hide (by have h9 := unhide HA; rw [List.take_length] at h9; exact h9 : ds.all (formB z) = true)
      go_wp2
      go_ret
      exact ⟨⟨-1, rfl, by omega, by omega, by rw [unhide HA2]; simp⟩, unhide HK⟩

set_option maxRecDepth 100000 in
set_option maxHeartbeats 1000000 in
theorem containsFunc_any (z : Int) (g : Nat) (v : Value) (ds : List (List Nat)) (w : World) (hz : -9223372036854775808 ≤ z ∧ z ≤ 9223372036854775807) (hv : RdD w v ds) (hg : w.heap[g]? = some (.cells #[.int .i64 z] 3 (0, 0))) :
    Calls Tryd.prog 46 #[v, .func (.func 45) #[] #[.pointer (some ⟨g, 0, none⟩)]] w fun e w' => e = .returned (.bool (!ds.all (formB z))) ∧ Kept [] w w' := by
  go_enter Tryd.func46, Tryd.ntmps46
  go_wp2_with fail
  refine Calls.mono (indexFunc_any z g v ds _ hz hv hg) ?_
  rintro e w1 ⟨⟨r, rfl, h1, h2, h3⟩, k1⟩
  have HK1 := hide k1
  clear k1
  cases hA : ds.all (formB z) with
  | true =>
    have hr : ¬ (0 : Int) ≤ r := by rw [h3, hA]; simp
    have hr' : r < 0 := by omega
    have HA := hide hA
    clear h3 hA
    go_wp2; go_ret; exact ⟨by rw [unhide HA]; simp [hr], unhide HK1⟩
  | false =>
    have hr : (0 : Int) ≤ r := h3.2 hA
    have HA := hide hA
    clear h3 hA
    go_wp2; go_ret; exact ⟨by rw [unhide HA]; simp [hr], unhide HK1⟩

set_option maxRecDepth 100000 in
set_option maxHeartbeats 1000000 in
theorem hformed_any (z : Int) (kv : Value) (key : List Nat) (sv : Value) (ss : List (Nat × List (List Nat))) (nv : Value) (known : List (List Nat)) (w : World) (hz : -9223372036854775808 ≤ z ∧ z ≤ 9223372036854775807) (hk : Rd w kv key) (hs : RdS w sv ss) (hn : RdD w nv known) :
    Calls Tryd.prog 22 #[.int .i64 z, kv, sv, nv] w fun e w' => e = .returned (.int .i64 (hfE z key known ss : Int)) ∧ Kept [] w w' := by
  obtain ⟨ao, len, cap, rfl, h1, h2, h3, h4⟩ := hk
  obtain ⟨sa, ls, sc, vs, rfl, s1, s2, s3, s4, s5⟩ := hs
  have HN := hide hn
  have S4 := hide s4
  have S5 := hide s5
  have HK0 := hide ((Kept.refl [] w).alloc (.cells #[.int .i64 z] 3))
  have HG0 := hide (heap_alloc_new w (.cells #[.int .i64 z] 3))
  clear h4 s4 s5 hn
  subst h1
  subst s1
  go_enter Tryd.func22, Tryd.ntmps22
  by_cases hz1 : z < 1
  · have HF := hide (by unfold hfE; rw [if_pos (by unfold widthB; simp; omega)] : hfE z key known ss = 1)
    go_wp2
    go_ret
    exact ⟨by rw [unhide HF]; rfl, unhide HK0⟩
  · by_cases hz2 : 32 < z
    · have HF := hide (by unfold hfE; rw [if_pos (by unfold widthB; simp; omega)] : hfE z key known ss = 1)
      go_wp2
      go_ret
      exact ⟨by rw [unhide HF]; rfl, unhide HK0⟩
    · have hzw : ¬ widthB z = false := by unfold widthB; simp; omega
      by_cases hk : 64 < key.length
      · have hk' : (64 : Int) < key.length := by omega
        have HF := hide (by unfold hfE; rw [if_neg hzw, if_pos hk] : hfE z key known ss = 2)
        go_wp2
        go_ret
        exact ⟨by rw [unhide HF]; rfl, unhide HK0⟩
      · have hk' : ¬ (64 : Int) < key.length := by omega
        have HF := hide (by unfold hfE; rw [if_neg hzw, if_neg hk] : hfE z key known ss = if known.all (formB z) && ss.all (fun s => s.2.all (formB z)) then 0 else 3)
        clear hzw
        go_wp2_with fail
        refine Calls.mono (containsFunc_any z w.heap.size nv known _ hz ((unhide HN).old (unhide HK0)) (unhide HG0)) ?_
        rintro e w1 ⟨rfl, k1⟩
        have HK1 := hide ((unhide HK0).trans k1 (by simp))
        have HG1 := hide (k1.heap (unhide HG0) (by simp))
        clear k1
        cases hA : known.all (formB z) with
        | false =>
          have HF2 := hide (by rw [unhide HF, hA]; rfl : hfE z key known ss = 3)
          clear hA HF
          go_wp2
          go_ret
          exact ⟨by rw [unhide HF2]; rfl, unhide HK1⟩
        | true =>
          have HF2 := hide (by rw [unhide HF, hA, Bool.true_and] : hfE z key known ss = if ss.all (fun s => s.2.all (formB z)) then 0 else 3)
          clear hA HF
          go_wp2_with fail
          go_loopw [27] (fun t27 wr => ∃ (i : Nat), i ≤ ss.length ∧ t27 = .int .i64 i ∧ Hid ((ss.take i).all (fun s => s.2.all (formB z)) = true) ∧ Hid (Kept [] w wr) ∧ Hid (wr.heap[w.heap.size]? = some (.cells #[.int .i64 z] 3 (0, 0)))) (fun t _ => ss.length - (intOf t).toNat)
          case atStart => exact ⟨0, Nat.zero_le _, rfl, hide (by simp), HK1, HG1⟩
          case round =>
            obtain ⟨i, hi, rfl, HA, HK, HG⟩ := hrel
            by_cases hlt : i < ss.length
            · have hlt' : (i : Int) < ss.length := by omega
              obtain ⟨b, o, rfl, hcell⟩ := unhide S5 (by omega)
              have q1 := (unhide HK).cell (hcell i hlt).1 (by simp)
              have q2 := (unhide HK).cell (hcell i hlt).2 (by simp)
              have HD := hide (unhide S4 i hlt)
              have HN := hide (by rw [List.take_succ_eq_append_getElem hlt, List.all_append, unhide HA, List.getD_eq_getElem?_getD, List.getElem?_eq_getElem hlt]; simp : (ss.take (i + 1)).all (fun s => s.2.all (formB z)) = (ss.getD i (0, [])).2.all (formB z))
              have HM := hide (fun (h : (ss.getD i (0, [])).2.all (formB z) = false) => by
                have h9 : ss.all (fun s => s.2.all (formB z)) = false := by
                  rw [List.all_eq_false]
                  exact ⟨ss.getD i (0, []), by rw [List.getD_eq_getElem?_getD, List.getElem?_eq_getElem hlt]; exact List.getElem_mem hlt, by rw [h]; decide⟩
                rw [unhide HF2, h9]; rfl : (ss.getD i (0, [])).2.all (formB z) = false → hfE z key known ss = 3)
              clear hcell
              generalize ss.getD i (0, []) = s at q1 HD HN HM
              generalize vs.getD i undef = vi at q2 HD
              obtain ⟨sb, sk⟩ := s
              simp only at q1 HD HN HM
              obtain ⟨a8, m8, c8, rfl, hm8, _⟩ := id (unhide HD).2
              subst hm8
              have HKa := hide ((unhide HK).alloc (.cells #[.int .u16 sb, .slice a8 sk.length c8] 51))
              have HGa := hide (((Kept.refl [] wr).alloc (.cells #[.int .u16 sb, .slice a8 sk.length c8] 51)).heap (unhide HG) (by simp))
              go_wp2_with fail
              refine Calls.mono (containsFunc_any z w.heap.size _ sk _ hz ((unhide HD).2.old (unhide HKa)) (unhide HGa)) ?_
              rintro e w2 ⟨rfl, k2⟩
              have HK2 := hide ((unhide HKa).trans k2 (by simp))
              have HG2 := hide (k2.heap (unhide HGa) (by simp))
              clear k2 q1 q2
              cases hA : sk.all (formB z) with
              | true =>
                rw [hA] at HN
                clear hA
                go_wp2
                refine ⟨⟨i + 1, hlt, by go_num, HN, HK2, HG2⟩, ?_⟩
                simp [intOf]; omega
              | false =>
                have HX := hide (unhide HM hA)
                clear hA
                go_wp2
                go_ret
                exact ⟨by rw [unhide HX]; rfl, unhide HK2⟩
            · have hi' : i = ss.length := by omega
              subst hi'
              have HA2 := hide (by have h9 := unhide HA; rw [List.take_length] at h9; exact h9 : ss.all (fun s => s.2.all (formB z)) = true)
              go_wp2
              go_ret
              exact ⟨by rw [unhide HF2, unhide HA2]; rfl, unhide HK⟩
end Go.Proofs.YtilhfladhgmldaaDoor

namespace Go.Proofs.YtilhfladhgmldaaDoor
open Go.RowKit
set_option linter.unusedVariables false
set_option linter.unusedSimpArgs false

/-- The string that bytes make. -/
def strOf (p : List Nat) : ByteArray := ⟨(p.map UInt8.ofNat).toArray⟩

theorem ba_loop (s : ByteArray) : ∀ n i r, s.size - i = n → ByteArray.toList.loop s i r = r.reverse ++ s.data.toList.drop i := by
  intro n
  induction n with
  | zero =>
    intro i r h
    rw [ByteArray.toList.loop]
    have h1 : s.size = s.data.toList.length := (Array.length_toList).symm
    rw [if_neg (by omega), List.drop_eq_nil_of_le (by omega), List.append_nil]
  | succ n ih =>
    intro i r h
    rw [ByteArray.toList.loop]
    have h1 : s.size = s.data.toList.length := (Array.length_toList).symm
    have h2 : i < s.data.toList.length := by omega
    rw [if_pos (by omega), ih (i + 1) _ (by omega), List.drop_eq_getElem_cons h2]
    have h3 : s.get! i = s.data.toList[i] := by
      have h4 : i < s.data.size := by simpa using h2
      rw [Array.getElem_toList]
      exact getElem!_pos s.data i h4
    simp [h3]
theorem ba_toList (s : ByteArray) : s.toList = s.data.toList := by
  unfold ByteArray.toList
  rw [ba_loop s _ 0 [] rfl]
  simp

theorem strOf_inj {p q : List Nat} (hp : ∀ x ∈ p, x < 256) (hq : ∀ x ∈ q, x < 256) (h : strOf p = strOf q) : p = q := by
  have h1 : p.map UInt8.ofNat = q.map UInt8.ofNat := by
    have := congrArg (fun b => b.data.toList) h
    simpa [strOf] using this
  have h2 := congrArg (List.map UInt8.toNat) h1
  simp only [List.map_map] at h2
  have e : ∀ l : List Nat, (∀ x ∈ l, x < 256) → l.map (UInt8.toNat ∘ UInt8.ofNat) = l := by
    intro l hl
    conv => rhs; rw [← List.map_id l]
    apply List.map_congr_left
    intro x hx
    have := hl x hx
    simp [UInt8.toNat_ofNat]; omega
  rw [e p hp, e q hq] at h2
  exact h2

theorem conv_any (v : Value) (p : List Nat) (w : World) (h : Rd w v p) (hu5 : Tryd.prog.underlying 5 = some (.int .u8)) (hu9 : Tryd.prog.underlying 9 = some .string) :
    (convert 22 9 v).run Tryd.prog w = .ok (.string (strOf p)) w := by
  obtain ⟨ao, len, cap, rfl, rfl, h2, h3, h4, h5, h6⟩ := h
  have hl : p.length = (p.map UInt8.ofNat).length := by simp
  cases ao with
  | none =>
    have hz := h4 rfl
    have hp0 : p = [] := List.eq_nil_of_length_eq_zero (by omega)
    subst hp0
    rw [run_convert_bytes_string w 22 9 5 none _ cap Tryd.underlying22 hu5 hu9]
    simp [Conv.bytesToString, strOf]
    rfl
  | some a =>
    rw [hl]
    refine run_convert_bytes_back w 22 9 5 a cap (p.map UInt8.ofNat) Tryd.underlying22 hu5 hu9 (fun j hj => ?_)
    simp at hj
    obtain ⟨b, off, he, hc⟩ := h6 (by omega)
    cases he
    have := hc j hj
    rw [Addr.add_mid, this]
    have hb := h5 (p[j]) (List.getElem_mem hj)
    simp [u8, List.getD_eq_getElem?_getD, List.getElem?_eq_getElem hj, UInt8.toNat_ofNat]
    omega

end Go.Proofs.YtilhfladhgmldaaDoor
namespace Go.Proofs.YtilhfladhgmldaaDoor
open Go.RowKit Go.BigFrame
set_option linter.unusedVariables false
set_option linter.unusedSimpArgs false

theorem RdK.cells {w : World} {ao : Option Addr} {len cap : Nat} {ps : List (List Nat × List Nat)} (h : RdK w (.slice ao len cap) ps) : ps.length = len ∧ len ≤ cap ∧ cap ≤ 9223372036854775807 ∧
    ∀ i, i < len → ∃ b off u v, ao = some ⟨b, off, none⟩ ∧ w.cell? ⟨b, off + i * 2, none⟩ = some u ∧ w.cell? ⟨b, off + i * 2 + 1, none⟩ = some v ∧ Rd w u (ps.getD i ([], [])).1 ∧ Rd w v (ps.getD i ([], [])).2 := by
  obtain ⟨ao', len', cap', vs, us, he, h1, h2, h3, h4, h5⟩ := h
  cases he
  refine ⟨h1, h2, h3, fun i hi => ?_⟩
  obtain ⟨b, off, rfl, hc⟩ := h5 (by omega)
  exact ⟨b, off, _, _, rfl, (hc i hi).1, (hc i hi).2, (h4 i hi).1, (h4 i hi).2⟩
theorem valH_skip {key : List Nat} : ∀ (ps : List (List Nat × List Nat)) (i : Nat), i ≤ ps.length → (∀ j, j < i → (ps.getD j ([], [])).1 ≠ key) → valH key ps = valH key (ps.drop i)
  | ps, 0, _, _ => by simp
  | [], i + 1, h, _ => by simp at h
  | p :: r, i + 1, h, hn => by
    have h0 := hn 0 (by omega)
    simp only [List.getD_cons_zero] at h0
    rw [valH, if_neg h0, List.drop_succ_cons]
    exact valH_skip r i (by simpa using h) (fun j hj => by have := hn (j + 1) (by omega); simpa using this)

set_option maxRecDepth 100000 in
set_option maxHeartbeats 2000000 in
theorem bequal_any (u v : Value) (p q : List Nat) (w : World) (hu : Rd w u p) (hv : Rd w v q) :
    Calls Tryd.prog 52 #[u, v] w fun e w' => e = .returned (.bool (decide (p = q))) ∧ w' = w := by
  have hu5 : Tryd.prog.underlying 5 = some (.int .u8) := by kernel_rfl
  have hu9 : Tryd.prog.underlying 9 = some .string := by kernel_rfl
  have c1 := conv_any u p w hu hu5 hu9
  have c2 := conv_any v q w hv hu5 hu9
  have hd : ((strOf p).toList == (strOf q).toList) = decide (p = q) := by
    rw [ba_toList, ba_toList]
    by_cases h : p = q
    · subst h; simp
    · have h2 : ¬ (strOf p).data.toList = (strOf q).data.toList := fun e => h (strOf_inj hu.byte hv.byte (by
        have e2 := congrArg List.toArray e
        simp only [Array.toArray_toList] at e2
        cases hp : strOf p; cases hq : strOf q
        rw [hp, hq] at e2
        simp only at e2
        rw [e2]))
      rw [decide_eq_false h]
      exact beq_eq_false_iff_ne.2 h2
  have Hd := hide hd
  generalize strOf p = s1 at *
  generalize strOf q = s2 at *
  clear hu hv hu5 hu9 hd
  go_enter Tryd.func52, Tryd.ntmps52
  go_wp2
  go_ret
  exact ⟨by rw [unhide Hd]; rfl, rfl⟩

set_option maxRecDepth 100000 in
set_option maxHeartbeats 1000000 in
theorem bclone_any (v : Value) (p : List Nat) (w : World) (h : Rd w v p) :
    Calls Tryd.prog 53 #[v] w fun e w' => (∃ v', e = .returned v' ∧ Rd w' v' p ∧ ∀ x ∈ blk v', w.heap.size ≤ x) ∧ Kept [] w w' := by
  have H := hide h
  obtain ⟨a1, n1, c1, rfl, hn1, hc1, ⟨hc2, hc3⟩, hc4, hc5, hc6⟩ := id h
  subst hn1
  clear h hc6 hc5
  cases a1 with
  | none =>
    have h0 : p.length = 0 := by have := hc4 rfl; omega
    have hp : p = [] := List.eq_nil_of_length_eq_zero h0
    clear hc4
    subst hp
    simp only [List.length_nil]
    have hq : ∀ W : World, (binOp .eql 22 (.slice none 0 c1) (.slice none 0 0)).run Tryd.prog W = .ok (.bool true) W := by
      intro W
      simp only [binOp]
      simp [run_equal_slice_nil W 22 5 none 0 c1 Tryd.underlying22]
    go_enter Tryd.func53, Tryd.ntmps53
    go_wp2
    go_ret
    exact ⟨⟨_, rfl, Rd.nil _, by simp [blk]⟩, Kept.refl _ _⟩
  | some ad =>
    clear hc4
    have HO := hide (World.ownsRow_made (base := w.heap.size) (e := 5) (size := 1) w #[] 0 (Nat.le_refl _) (by unfold maxLen; omega) (by simp))
    have hq : ∀ W : World, (binOp .eql 22 (.slice (some ad) p.length c1) (.slice none 0 0)).run Tryd.prog W = .ok (.bool false) W := by
      intro W
      simp only [binOp]
      simp [run_equal_slice_nil W 22 5 (some ad) p.length c1 Tryd.underlying22]
    go_enter Tryd.func53, Tryd.ntmps53
    go_wp2_with (at_builtin; refine wpList_appendAll rfl (.tmp 5) (.tmp 6) rfl rfl _ w.heap.size (.slice (some ⟨w.heap.size, 0, none⟩) 0 0) [] p (some ad) p.length c1 (unhide HO) ((unhide H).old ((Kept.refl [] w).alloc _) (by simp)) (by simp; omega) (by simp) rfl rfl ?_; intro ao1 cap1 w1 HO1 HG1 HA1; simp only [List.nil_append, List.length_nil, Nat.zero_add] at HO1 HA1; have HK1 := hide (((Kept.refl [] w).alloc _).grown (unhide HG1) (by intro k hk; right; simp [Value.ownBlock] at hk; omega)); clear HG1)
    go_ret
    refine ⟨⟨_, rfl, rd_owns (unhide HO1) (unhide H).byte hc3, ?_⟩, unhide HK1⟩
    intro x hx
    cases ao1 with
    | none => simp [blk] at hx
    | some a => simp [blk] at hx; subst hx; exact ((unhide HO1).lt a.block rfl).1

set_option maxRecDepth 100000 in
set_option maxHeartbeats 1000000 in
theorem valueOf_any (kv pv : Value) (key : List Nat) (ps : List (List Nat × List Nat)) (w : World) (hk : Rd w kv key) (hp : RdK w pv ps) :
    Calls Tryd.prog 24 #[kv, pv] w fun e w' => (∃ v', e = .returned (.tuple #[v', .bool (valH key ps).isSome]) ∧ Rd w' v' ((valH key ps).getD []) ∧ ∀ x ∈ blk v', w.heap.size ≤ x) ∧ Kept [] w w' := by
  have HKY := hide hk
  obtain ⟨ao, n, c, _, _, rfl, _⟩ := id hp
  obtain ⟨h1, h2, h3, h4⟩ := hp.cells
  have H4 := hide h4
  clear h4 hp hk
  subst h1
  go_enter Tryd.func24, Tryd.ntmps24
  go_wp2_with fail
  go_loopw [10] (fun t10 wr => ∃ (i : Nat), i ≤ ps.length ∧ t10 = .int .i64 i ∧ Hid (∀ j, j < i → (ps.getD j ([], [])).1 ≠ key) ∧ Hid (Kept [] w wr)) (fun t _ => ps.length - (intOf t).toNat)
  case atStart => exact ⟨0, Nat.zero_le _, rfl, hide (by intro j hj; omega), hide (Kept.refl _ _)⟩
  case round =>
    obtain ⟨i, hi, rfl, HA, HK⟩ := hrel
    by_cases hlt : i < ps.length
    · have hlt' : (i : Int) < ps.length := by omega
      obtain ⟨b, o, x, y, rfl, c1, c2, r1, r2⟩ := unhide H4 i hlt
      have q1 := (unhide HK).cell c1 (by simp)
      have q2 := (unhide HK).cell c2 (by simp)
      have HX := hide (r1.old (unhide HK) (by simp))
      have HY := hide (r2.old (unhide HK) (by simp))
      have HS := hide (valH_skip (key := key) ps i hi (unhide HA))
      rw [List.drop_eq_getElem_cons hlt] at HS
      have hget : ps.getD i ([], []) = ps[i] := by rw [List.getD_eq_getElem?_getD, List.getElem?_eq_getElem hlt]; rfl
      have HI := hide hget
      rw [hget] at HX HY
      clear c1 c2 r1 r2 hget
      generalize hpi : ps[i] = pi at HX HY HS HI
      clear hpi
      obtain ⟨pk, pw⟩ := pi
      simp only at HX HY
      obtain ⟨a8, m8, c8, rfl, hm8, _⟩ := id (unhide HX)
      obtain ⟨a9, m9, c9, rfl, hm9, _⟩ := id (unhide HY)
      subst hm8
      subst hm9
      have HKa := hide ((Kept.refl [] wr).alloc (.cells #[.slice a8 pk.length c8, .slice a9 pw.length c9] 58))
      have HCW := hide (heap_alloc_new wr (.cells #[.slice a8 pk.length c8, .slice a9 pw.length c9] 58))
      go_wp2_with fail
      refine Calls.mono (bequal_any _ _ pk key _ ((unhide HX).old (unhide HKa) (by simp)) ((unhide HKY).old ((unhide HK).trans (unhide HKa) (by simp)) (by simp))) ?_
      rintro e w1 ⟨rfl, rfl⟩
      have c0 := cell_of_row _ wr.heap.size 1 _ _ _ (unhide HCW)
      by_cases hE : pk = key
      · rw [decide_eq_true hE]
        have HV := hide (by rw [unhide HS, valH, if_pos hE] : valH key ps = some pw)
        clear hE q1 q2
        go_wp2_with fail
        refine Calls.mono (bclone_any _ pw _ ((unhide HY).old (unhide HKa) (by simp))) ?_
        rintro e w2 ⟨⟨v', rfl, hv', hb'⟩, k2⟩
        have HB2 := hide (fun x hx => Nat.le_trans ((unhide HK).trans (unhide HKa) (by simp)).size (hb' x hx) : ∀ x ∈ blk v', w.heap.size ≤ x)
        clear hb'
        have HK2 := hide (((unhide HK).trans (unhide HKa) (by simp)).trans k2 (by simp))
        have HV2 := hide hv'
        clear k2 hv' c0
        go_wp2
        go_ret2
        exact ⟨⟨_, by rw [unhide HV]; rfl, by rw [unhide HV]; exact unhide HV2, unhide HB2⟩, unhide HK2⟩
      · rw [decide_eq_false hE]
        have HA2 := hide (fun j (hj : j < i + 1) => by
          rcases Nat.lt_or_ge j i with h9 | h9
          · exact unhide HA j h9
          · obtain rfl : j = i := by omega
            rw [unhide HI]; exact hE : ∀ j, j < i + 1 → (ps.getD j ([], [])).1 ≠ key)
        clear hE q1 q2 c0
        go_wp2
        refine ⟨⟨i + 1, hlt, by go_num, HA2, hide ((unhide HK).trans (unhide HKa) (by simp))⟩, ?_⟩
        simp [intOf]; omega
    · have hi' : i = ps.length := by omega
      subst hi'
      have HV := hide (by rw [valH_skip (key := key) ps ps.length (Nat.le_refl _) (unhide HA), List.drop_length]; rfl : valH key ps = none)
      go_wp2
      go_ret2
      exact ⟨⟨_, by rw [unhide HV]; rfl, by rw [unhide HV]; exact Rd.nil _, by simp [blk]⟩, unhide HK⟩
end Go.Proofs.YtilhfladhgmldaaDoor
namespace Go.Proofs.YtilhfladhgmldaaDoor
open Go.RowKit Go.BigFrame
set_option linter.unusedVariables false
set_option linter.unusedSimpArgs false

theorem run_bytesOf {P : Program} {w : World} {v : Value} {a : List Nat} (h : Rd w v a) : ∃ r : ByteArray, (Extern.Bytes.bytesOf v).run P w = .ok r w ∧ r.data.toList = a.map b8 := by
  obtain ⟨ao, n, c, rfl, h1, h2, h3, h4, _, h5⟩ := h
  subst h1
  cases ao with
  | none =>
    have h0 : a = [] := List.eq_nil_of_length_eq_zero (by have := h4 rfl; omega)
    subst h0
    exact ⟨.empty, rfl, rfl⟩
  | some p =>
    rcases Nat.eq_zero_or_pos a.length with h0 | h0
    · have h0' : a = [] := List.eq_nil_of_length_eq_zero h0
      subst h0'
      exact ⟨.empty, rfl, rfl⟩
    · obtain ⟨b, off, he, hc⟩ := h5 h0
      cases he
      obtain ⟨r, hr, e⟩ := run_loadBytes (P := P) (w := w) (g := b) a off .empty hc
      exact ⟨r, hr, by rw [e]; simp⟩
theorem run_cmpR {P : Program} {w : World} {u v : Value} {a b : List Nat} (ha : Rd w u a) (hb : Rd w v b) : (Extern.BytealgCompare.compare #[u, v]).run P w = .ok (.int .i64 (ordL a b)) w := by
  obtain ⟨r, hr, he⟩ := run_bytesOf (P := P) ha
  obtain ⟨r', hr', he'⟩ := run_bytesOf (P := P) hb
  change Sem.run P (do pure (goInt (Extern.BytealgCompare.cmp (← Extern.Bytes.bytesOf u) (← Extern.Bytes.bytesOf v)))) w = _
  simp only [Sem.run_bind, hr, hr', Sem.run_pure, Result.andThen]
  rw [Lib.cmp_eq, he, he']
  show Result.ok (goInt (Lib.compareBytes (a.map b8) (b.map b8))) w = _
  rw [cmp_ord a b ha.byte hb.byte]
  rfl

set_option maxRecDepth 100000 in
set_option maxHeartbeats 1000000 in
theorem bcmp_any (u v : Value) (a b : List Nat) (w : World) (ha : Rd w u a) (hb : Rd w v b) :
    Calls Tryd.prog 86 #[u, v] w fun e w' => e = .returned (.int .i64 (ordL a b)) ∧ w' = w := by
  obtain ⟨ao, n, c, rfl, h1, _, _, h4, h5, _⟩ := id ha
  obtain ⟨bo, m, d, rfl, g1, _, _, g4, g5, _⟩ := id hb
  have HC := hide (fun (P : Program) => run_cmpR (P := P) ha hb)
  clear ha hb h4 g4 h5 g5
  go_enter Tryd.func86, Tryd.ntmps86
  go_wp2
  rw [run_callFunc_extern Tryd.func99 (by kernel_rfl) (by kernel_rfl) (by kernel_rfl) (e := Extern.BytealgCompare.compare) (by kernel_rfl), unhide HC]
  simp only [Result.andThen]
  rw [Oper.upon_value]
  go_wp2
  go_ret
  exact ⟨rfl, rfl⟩

theorem risB_down {ps : List (List Nat × List Nat)} {i : Nat} : ∀ (n : Nat), i ≤ n → risB ps i = false → risB ps n = false
  | 0, h, hi => by obtain rfl : i = 0 := by omega
                   exact hi
  | n + 1, h, hi => by
    rcases Nat.lt_or_ge n i with h9 | h9
    · obtain rfl : i = n + 1 := by omega
      exact hi
    · rw [risB, risB_down n h9 hi]; rfl
theorem ordL_bnd : ∀ a b : List Nat, -1 ≤ ordL a b ∧ ordL a b ≤ 1
  | [], [] => by simp [ordL]
  | [], _ :: _ => by simp [ordL]
  | _ :: _, [] => by simp [ordL]
  | x :: a, y :: b => by
    have := ordL_bnd a b
    simp only [ordL]
    split
    · omega
    · split
      · omega
      · exact this

set_option maxRecDepth 100000 in
set_option maxHeartbeats 1000000 in
theorem rising_any (pv : Value) (ps : List (List Nat × List Nat)) (w : World) (hp : RdK w pv ps) :
    Calls Tryd.prog 50 #[pv] w fun e w' => e = .returned (.bool (risB ps ps.length)) ∧ Kept [] w w' := by
  obtain ⟨ao, n, c, _, _, rfl, _⟩ := id hp
  obtain ⟨h1, h2, h3, h4⟩ := hp.cells
  have H4 := hide h4
  clear h4 hp
  subst h1
  go_enter Tryd.func50, Tryd.ntmps50
  go_wp2_with fail
  go_loopw [7] (fun t7 wr => ∃ (i : Nat), i ≤ ps.length ∧ t7 = .int .i64 i ∧ Hid (risB ps i = true) ∧ Hid (Kept [] w wr)) (fun t _ => ps.length - (intOf t).toNat)
  case atStart => exact ⟨0, Nat.zero_le _, rfl, hide rfl, hide (Kept.refl _ _)⟩
  case round =>
    obtain ⟨i, hi, rfl, HA, HK⟩ := hrel
    by_cases hlt : i < ps.length
    · have hlt' : (i : Int) < ps.length := by omega
      obtain ⟨b, o, x, y, rfl, c1, c2, r1, r2⟩ := unhide H4 i hlt
      have HPR := hide (fun (h : 0 < i) => unhide H4 (i - 1) (by omega))
      have q1 := (unhide HK).cell c1 (by simp)
      have q2 := (unhide HK).cell c2 (by simp)
      have HX := hide (r1.old (unhide HK) (by simp))
      have HY := hide (r2.old (unhide HK) (by simp))
      have HST := hide (by rw [risB, unhide HA, Bool.true_and] : risB ps (i + 1) = (decide ((ps.getD i ([], [])).1.length ≤ 64) && (decide ((ps.getD i ([], [])).2.length ≤ 256) && (decide (i = 0) || decide (ordL (ps.getD (i - 1) ([], [])).1 (ps.getD i ([], [])).1 < 0)))))
      clear c1 c2 r1 r2
      generalize ps.getD i ([], []) = pi at HX HY HST
      obtain ⟨pk, pw⟩ := pi
      simp only at HX HY HST
      have HBAD := hide (fun (h : risB ps (i + 1) = false) => risB_down (ps := ps) ps.length hlt h)
      obtain ⟨a8, m8, c8, rfl, hm8, _⟩ := id (unhide HX)
      obtain ⟨a9, m9, c9, rfl, hm9, _⟩ := id (unhide HY)
      subst hm8
      subst hm9
      have HKa := hide ((Kept.refl [] wr).alloc (.cells #[.slice a8 pk.length c8, .slice a9 pw.length c9] 58))
      have HKb := hide ((unhide HK).trans (unhide HKa) (by simp))
      by_cases hk : 64 < pk.length
      · have hk' : (64 : Int) < pk.length := by omega
        have HB := hide (unhide HBAD (by rw [unhide HST, decide_eq_false (by omega)]; rfl))
        go_wp2
        go_ret
        exact ⟨by rw [unhide HB]; rfl, unhide HKb⟩
      · have hk' : ¬ (64 : Int) < pk.length := by omega
        by_cases hv : 256 < pw.length
        · have hv' : (256 : Int) < pw.length := by omega
          have HB := hide (unhide HBAD (by rw [unhide HST, decide_eq_true (by omega), decide_eq_false (by omega)]; rfl))
          go_wp2
          go_ret
          exact ⟨by rw [unhide HB]; rfl, unhide HKb⟩
        · have hv' : ¬ (256 : Int) < pw.length := by omega
          have HST2 := hide (by rw [unhide HST, decide_eq_true (by omega), decide_eq_true (by omega)]; rfl : risB ps (i + 1) = (decide (i = 0) || decide (ordL (ps.getD (i - 1) ([], [])).1 pk < 0)))
          clear HST
          by_cases h0 : i = 0
          · have h0' : ¬ (0 : Int) < i := by omega
            have hi0 : ¬ 0 < i := by omega
            have HN := hide (by rw [unhide HST2, decide_eq_true h0]; rfl : risB ps (i + 1) = true)
            clear HST2 HBAD HPR h0
            go_wp2_with fail
            refine wp_quiet_tail 11 (by kernel_rfl) (by kernel_rfl) ?_
            simp only [List.take_succ_cons, List.take_zero, List.drop_succ_cons, List.drop_zero]
            repeat (go_big_quiet_step (fail))
            refine wpQuiet_nil ?_
            rintro _ ⟨n1, rfl⟩
            go_wp2
            refine ⟨⟨i + 1, hlt, by go_num, HN, hide ((unhide HKb).drewN n1)⟩, ?_⟩
            simp [intOf]; omega
          · have h0' : (0 : Int) < i := by omega
            have hi0 : 0 < i := by omega
            obtain ⟨_, _, x', y', he, c1, c2, r1, r2⟩ := unhide HPR (by omega)
            cases he
            have HST3 := hide (by rw [unhide HST2, decide_eq_false h0]; rfl : risB ps (i + 1) = decide (ordL (ps.getD (i - 1) ([], [])).1 pk < 0))
            have q3 := ((unhide HKb)).cell c1 (by simp)
            have HX' := hide (r1.old (unhide HKb) (by simp))
            clear HST2 HPR c1 c2 r1 r2
            generalize (ps.getD (i - 1) ([], [])).1 = pp at HST3 HX'
            have hsub : ((i : Int) - 1) = ((i - 1 : Nat) : Int) := by omega
            obtain ⟨k, hk9⟩ : ∃ k, i - 1 = k := ⟨_, rfl⟩
            rw [hk9] at q3 hsub
            have hkl : (k : Int) < ps.length := by omega
            obtain ⟨a7, m7, c7, rfl, hm7, _⟩ := id (unhide HX')
            subst hm7
            have HI := hide (by omega : ¬ i = 0)
            clear h0 hk9
            have c8' := cell_of_row _ wr.heap.size 0 _ _ _ (heap_alloc_new wr (.cells #[.slice a8 pk.length c8, .slice a9 pw.length c9] 58))
            go_wp2_with fail
            refine wp_quiet_tail 11 (by kernel_rfl) (by kernel_rfl) ?_
            simp only [List.take_succ_cons, List.take_zero, List.drop_succ_cons, List.drop_zero]
            repeat (go_big_quiet_step (fail))
            refine wpQuiet_nil ?_
            rintro _ ⟨n1, rfl⟩
            go_wp2_with fail
            refine Calls.mono (bcmp_any _ _ pp pk _ ((unhide HX').old ((Kept.refl [] _).drewN n1) (by simp)) ((unhide HX).old ((unhide HKa).drewN n1) (by simp))) ?_
            rintro e w1 ⟨rfl, rfl⟩
            have hob := ordL_bnd pp pk
            generalize ordL pp pk = C at HST3 hob ⊢
            clear q1 q2 q3 hsub hkl c8'
            by_cases hC : C < 0
            · have hC' : ¬ (0 : Int) ≤ C := by omega
              have HN := hide (by rw [unhide HST3, decide_eq_true hC] : risB ps (i + 1) = true)
              clear hC
              go_wp2
              refine ⟨⟨i + 1, hlt, by go_num, HN, hide ((unhide HKb).drewN n1)⟩, ?_⟩
              simp [intOf]; omega
            · have hC' : (0 : Int) ≤ C := by omega
              have HB := hide (unhide HBAD (by rw [unhide HST3, decide_eq_false hC]))
              clear hC
              go_wp2
              go_ret
              exact ⟨by rw [unhide HB]; rfl, (unhide HKb).drewN n1⟩
    · have hi' : i = ps.length := by omega
      subst hi'
      go_wp2
      go_ret
      exact ⟨by rw [unhide HA]; rfl, unhide HK⟩
end Go.Proofs.YtilhfladhgmldaaDoor
namespace Go.Proofs.YtilhfladhgmldaaDoor
open Go.RowKit Go.BigFrame
set_option linter.unusedVariables false
set_option linter.unusedSimpArgs false

theorem RdK.tail {w : World} {b off n c : Nat} {ps : List (List Nat × List Nat)} (h : RdK w (.slice (some ⟨b, off, none⟩) n c) ps) (hp : 0 < n) : RdK w (.slice (some ⟨b, off + 2, none⟩) (n - 1) (c - 1)) (ps.drop 1) := by
  obtain ⟨_, _, _, vs, us, he, h1, h2, h3, h4, h5⟩ := h
  cases he
  refine ⟨_, n - 1, c - 1, vs.drop 1, us.drop 1, rfl, by simp [h1], by omega, by omega, fun i hi => ?_, fun _ => ⟨b, off + 2, rfl, fun i hi => ?_⟩⟩
  · have := h4 (i + 1) (by omega)
    simpa [List.getD_eq_getElem?_getD, Nat.add_comm] using this
  · obtain ⟨b', o', e, hc⟩ := h5 hp
    cases e
    have := hc (i + 1) (by omega)
    rw [show off + (i + 1) * 2 = off + 2 + i * 2 by omega] at this
    simpa [List.getD_eq_getElem?_getD, Nat.add_comm] using this

set_option maxRecDepth 100000 in
set_option maxHeartbeats 1000000 in
theorem hang_any (z : Int) (ks : List Nat) (n : Nat) (pv : Value) (ps : List (List Nat × List Nat)) (w : World) (hz : -9223372036854775808 ≤ z ∧ z ≤ 9223372036854775807) (hks : Dg ks) (hn : n ≤ 1000000000000) (hp : RdK w pv ps) (hp0 : 0 < ps.length) (hT : Tabs w) (hl : ∀ p ∈ ps, p.1.length ≤ 64) :
    Calls Tryd.prog 51 #[.int .i64 z, .agg (brow ks), .int .i64 n, pv] w fun e w' => e = .returned (.bool (hanB z ks n ps)) ∧ Kept [] w w' := by
  obtain ⟨ao, m, c, _, _, rfl, _⟩ := id hp
  obtain ⟨h1, h2, h3, h4⟩ := hp.cells
  obtain ⟨b, o, x, y, rfl, c1, c2, r1, r2⟩ := h4 0 (by omega)
  have HTL : Hid (RdK w (if c = 1 then .slice (some ⟨b, o, none⟩) (m - 1) 0 else .slice (some ⟨b, o + 2, none⟩) (m - 1) (c - 1)) (ps.drop 1)) := hide (by
    by_cases hc9 : c = 1
    · rw [if_pos hc9]
      have h9 : ps.drop 1 = [] := by rw [List.drop_eq_nil_iff]; omega
      rw [h9, show m - 1 = 0 by omega]
      exact ⟨_, 0, 0, [], [], rfl, rfl, Nat.le_refl _, by omega, fun i hi => by omega, fun hh => by omega⟩
    · rw [if_neg hc9]; exact hp.tail (by omega))
  have HX := hide r1
  have HT := hide hT
  have HKS := hide hks
  have hkl := hks.1
  have HL0 := hide (hl _ (by rw [List.getD_eq_getElem?_getD, List.getElem?_eq_getElem hp0]; exact List.getElem_mem hp0) : (ps.getD 0 ([], [])).1.length ≤ 64)
  have HLT := hide (fun p (h : p ∈ ps.drop 1) => hl p (List.mem_of_mem_drop h))
  have HF := hide (by unfold hanB; rfl : hanB z ks n ps = ((ps.drop 1).all (fun p => decide (keyS z p.1 = keyS z (ps.getD 0 ([], [])).1)) && decide (n ≤ comC z (keyS z (ps.getD 0 ([], [])).1) ks)))
  have HK0 := hide ((Kept.refl [] w).alloc (.cells (brow ks) 28))
  have HG0 := hide (heap_alloc_new w (.cells (brow ks) 28))
  have q1 := (unhide HK0).cell c1 (by simp)
  rw [Nat.zero_mul, Nat.add_zero] at q1
  clear h4 hp c1 c2 r1 r2 hT hks hl
  subst h1
  have hp0' : (0 : Int) < ps.length := by omega
  have hp1 : (1 : Int) ≤ ps.length := by omega
  have hp2 : 1 ≤ ps.length := by omega
  have hc1 : (1 : Int) ≤ c := by omega
  generalize (ps.getD 0 ([], [])).1 = k0 at HX HL0 HF
  obtain ⟨a8, m8, c8, rfl, hm8, _⟩ := id (unhide HX)
  subst hm8
  go_enter Tryd.func51, Tryd.ntmps51
  go_wp2_with fail
  refine Calls.mono (key_all z _ k0 _ hz ((unhide HX).old (unhide HK0) (by simp)) (by have := unhide HL0; omega) ((unhide HT).k (unhide HK0))) ?_
  rintro e w1 ⟨rfl, k1⟩
  have HD0 := hide (keyS_dg z k0)
  have HDE : keyS z k0 = sumD z (2 :: k0) := rfl
  rw [← HDE]
  clear HDE
  generalize keyS z k0 = D0 at HD0 HF ⊢
  have hd0 := (unhide HD0).1
  have kN := (k1.alloc (.cells (zb 32) 28)).setRow (g := w1.heap.size) (Or.inr k1.size) (brow D0)
  have HN1 := hide (setRow_heap (w1.alloc (.cells (zb 32) 28)) w1.heap.size (zb 32) (brow D0) 28 (0, 0) (heap_alloc_new _ _))
  have HK1 := hide ((unhide HK0).trans kN (by simp))
  have HG1 := hide (kN.heap (unhide HG0) (by simp))
  have HS0 := hide (Tryd.szD hd0)
  have HSK := hide (Tryd.szD hkl)
  clear kN k1 q1 HK0 HG0
  generalize ps.drop 1 = tl at HTL HLT HF
  obtain hc9 | hc9 : c = 1 ∨ ¬ c = 1 := by omega
  case' inl =>
    rw [if_pos hc9] at HTL
    subst hc9
    go_wp2_with (rw [zb32]; refine wpList_store_row rfl 28 _ _ rfl w1.heap.size (brow D0) rfl rfl _ (zb 32) (heap_alloc_new _ _) (unhide HS0) (by rw [zb_size, brow_size, hd0]) (brow_one _) ?_)
    have t0 : tl.length = 0 := by have := (unhide HTL).cells.1; omega
    have htb : tl.length ≤ 9223372036854775806 := by omega
    have H4 : Hid (∀ i, i < tl.length → ∃ b' off u v, (some (⟨b, o, none⟩ : Addr)) = some ⟨b', off, none⟩ ∧ w.cell? ⟨b', off + i * 2, none⟩ = some u ∧ w.cell? ⟨b', off + i * 2 + 1, none⟩ = some v ∧ Rd w u (tl.getD i ([], [])).1 ∧ Rd w v (tl.getD i ([], [])).2) := hide (fun i hi => by omega)
    clear HTL hc1 hp1 hp2 hp0' hp0
  case' inr =>
    rw [if_neg hc9] at HTL
    go_wp2_with (rw [zb32]; refine wpList_store_row rfl 28 _ _ rfl w1.heap.size (brow D0) rfl rfl _ (zb 32) (heap_alloc_new _ _) (unhide HS0) (by rw [zb_size, brow_size, hd0]) (brow_one _) ?_)
    obtain ⟨t1, t2, t3, t4⟩ := (unhide HTL).cells
    have H4 := hide t4
    have htb : tl.length ≤ 9223372036854775806 := by omega
    clear t4 HTL hc1 hp1 hp2 hp0' hp0 t2 t3 hc9
    generalize ps.length - 1 = N9 at t1 H4 ⊢
    subst t1
  all_goals
    obtain ⟨W, hW⟩ : ∃ W, (w1.alloc (.cells (zb 32) 28)).setRow w1.heap.size (brow D0) = W := ⟨_, rfl⟩
    rw [hW] at HN1 HK1 HG1 ⊢
    clear hW
    go_loopw [29] (fun t29 wr => ∃ (i : Nat), i ≤ tl.length ∧ t29 = .int .i64 i ∧ Hid ((tl.take i).all (fun p => decide (keyS z p.1 = D0)) = true) ∧ Hid (Kept [] w wr) ∧ Hid (wr.heap[w1.heap.size]? = some (.cells (brow D0) 28 (0, 0))) ∧ Hid (wr.heap[w.heap.size]? = some (.cells (brow ks) 28 (0, 0)))) (fun t _ => tl.length - (intOf t).toNat)
    case atStart => exact ⟨0, Nat.zero_le _, rfl, hide (by simp), HK1, HN1, HG1⟩
    case round =>
      obtain ⟨i, hi, rfl, HA, HK, HN, HG⟩ := hrel
      by_cases hlt : i < tl.length
      · first
        | (exfalso; omega)
        | (have hlt' : (i : Int) < tl.length := by omega
           obtain ⟨b', o', x', y', he, c1, c2, r1, r2⟩ := unhide H4 i hlt
           cases he
           have q1 := (unhide HK).cell c1 (by simp)
           have q2 := (unhide HK).cell c2 (by simp)
           have HX1 := hide (r1.old (unhide HK) (by simp))
           have HY1 := hide (r2.old (unhide HK) (by simp))
           have HLI := hide (unhide HLT (tl.getD i ([], [])) (by rw [List.getD_eq_getElem?_getD, List.getElem?_eq_getElem hlt]; exact List.getElem_mem hlt))
           have HNX := hide (by rw [List.take_succ_eq_append_getElem hlt, List.all_append, unhide HA, List.getD_eq_getElem?_getD, List.getElem?_eq_getElem hlt]; simp : (tl.take (i + 1)).all (fun p => decide (keyS z p.1 = D0)) = decide (keyS z (tl.getD i ([], [])).1 = D0))
           have HM := hide (fun (h : ¬ keyS z (tl.getD i ([], [])).1 = D0) => by
             have h9 : tl.all (fun p => decide (keyS z p.1 = D0)) = false := by
               rw [List.all_eq_false]
               exact ⟨tl.getD i ([], []), by rw [List.getD_eq_getElem?_getD, List.getElem?_eq_getElem hlt]; exact List.getElem_mem hlt, by rw [decide_eq_false h]; decide⟩
             rw [unhide HF, h9]; rfl : ¬ keyS z (tl.getD i ([], [])).1 = D0 → hanB z ks n ps = false)
           clear c1 c2 r1 r2
           generalize tl.getD i ([], []) = pi at HX1 HY1 HLI HNX HM
           obtain ⟨pk, pw⟩ := pi
           simp only at HX1 HY1 HLI HNX HM
           obtain ⟨a7, m7, c7, rfl, hm7, _⟩ := id (unhide HX1)
           obtain ⟨a9, m9, c9, rfl, hm9, _⟩ := id (unhide HY1)
           subst hm7
           subst hm9
           have HKa := hide ((Kept.refl [] wr).alloc (.cells #[.slice a7 pk.length c7, .slice a9 pw.length c9] 58))
           go_wp2_with fail
           refine Calls.mono (key_all z _ pk _ hz ((unhide HX1).old (unhide HKa) (by simp)) (by have := unhide HLI; omega) ((unhide HT).k ((unhide HK).trans (unhide HKa) (by simp)))) ?_
           rintro e w2 ⟨rfl, k2⟩
           have HDK := hide (keyS_dg z pk)
           have HDE : keyS z pk = sumD z (2 :: pk) := rfl
           rw [← HDE]
           clear HDE
           generalize keyS z pk = DK at HDK HNX HM ⊢
           have hdk := (unhide HDK).1
           have kN := (((unhide HKa).trans k2 (by simp)).alloc (.cells (zb 32) 28)).setRow (g := w2.heap.size) (Or.inr ((unhide HKa).trans k2 (by simp)).size) (brow DK)
           have HN2 := hide (setRow_heap (w2.alloc (.cells (zb 32) 28)) w2.heap.size (zb 32) (brow DK) 28 (0, 0) (heap_alloc_new _ _))
           have HK2 := hide ((unhide HK).trans kN (by simp))
           have HD2 := hide (kN.heap (unhide HN) (by simp))
           have HG2 := hide (kN.heap (unhide HG) (by simp))
           have HSD := hide (Tryd.szD hdk)
           clear kN k2 q1 q2
           have heq := fun W => dig_eq W DK D0 hdk hd0
           by_cases hE : DK = D0
           · rw [decide_eq_true hE] at heq HNX
             clear hE
             go_wp2_with (first
               | (rw [zb32]; refine wpList_store_row rfl 28 _ _ rfl w2.heap.size (brow DK) rfl rfl _ (zb 32) (heap_alloc_new _ _) (unhide HSD) (by rw [zb_size, brow_size, hdk]) (brow_one _) ?_)
               | (refine wpList_load_row rfl 28 _ rfl w2.heap.size rfl _ (brow DK) (0, 0) _ (unhide HN2) Tryd.underlying28 rfl (unhide HSD) ?_)
               | (refine wpList_load_row rfl 28 _ rfl w1.heap.size rfl _ (brow D0) (0, 0) _ (unhide HD2) Tryd.underlying28 rfl (unhide HS0) ?_))
             refine ⟨⟨i + 1, hlt, by go_num, HNX, HK2, HD2, HG2⟩, ?_⟩
             simp [intOf]; omega
           · have HB := hide (unhide HM hE)
             rw [decide_eq_false hE] at heq
             clear hE
             go_wp2_with (first
               | (rw [zb32]; refine wpList_store_row rfl 28 _ _ rfl w2.heap.size (brow DK) rfl rfl _ (zb 32) (heap_alloc_new _ _) (unhide HSD) (by rw [zb_size, brow_size, hdk]) (brow_one _) ?_)
               | (refine wpList_load_row rfl 28 _ rfl w2.heap.size rfl _ (brow DK) (0, 0) _ (unhide HN2) Tryd.underlying28 rfl (unhide HSD) ?_)
               | (refine wpList_load_row rfl 28 _ rfl w1.heap.size rfl _ (brow D0) (0, 0) _ (unhide HD2) Tryd.underlying28 rfl (unhide HS0) ?_))
             go_ret
             exact ⟨by rw [unhide HB]; rfl, unhide HK2⟩)
      · have hi' : i = tl.length := by omega
        have HF2 := hide (by have h9 := unhide HA; rw [hi', List.take_length] at h9; rw [unhide HF, h9, Bool.true_and] : hanB z ks n ps = decide (n ≤ comC z D0 ks))
        have hlt' : ¬ (i : Int) < tl.length := by omega
        clear hi'
        go_wp2_with (first
          | (refine wpList_load_row rfl 28 _ rfl w1.heap.size rfl _ (brow D0) (0, 0) _ (unhide HN) Tryd.underlying28 rfl (unhide HS0) ?_)
          | (refine wpList_load_row rfl 28 _ rfl w.heap.size rfl _ (brow ks) (0, 0) _ (unhide HG) Tryd.underlying28 rfl (unhide HSK) ?_))
        refine Calls.mono (common_any z D0 ks _ hz (unhide HD0) (unhide HKS)) ?_
        rintro e w3 ⟨rfl, k3⟩
        have HK3 := hide ((unhide HK).trans k3 (by simp))
        clear k3
        generalize comC z D0 ks = CC at HF2 ⊢
        by_cases hcc : n ≤ CC
        · have hcc' : (n : Int) ≤ CC := by omega
          go_wp2
          go_ret
          exact ⟨by rw [unhide HF2, decide_eq_true hcc]; simp [hcc], unhide HK3⟩
        · have hcc' : ¬ (n : Int) ≤ CC := by omega
          go_wp2
          go_ret
          exact ⟨by rw [unhide HF2, decide_eq_false hcc]; simp [hcc], unhide HK3⟩
end Go.Proofs.YtilhfladhgmldaaDoor
