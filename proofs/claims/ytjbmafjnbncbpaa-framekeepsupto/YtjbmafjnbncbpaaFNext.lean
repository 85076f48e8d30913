import Derived.Test.YtjbmafjnbncbpaaFEnc

import Derived.Laws.Cover3
namespace Go.Proofs.Ytjbmafjnbncbpaa
open Go.RowKit
set_option linter.unusedVariables false
set_option linter.unusedSimpArgs false

/-- A literal of an array, as a row that is known. -/
theorem f_build_as {P : Program} {ops : Array Oper} {rest : List Oper} {o : Oper} {a : Act} {w : World} {Q : Exit → Act → World → Prop} (hg : o.guard = none) (t : TypeId) (parts : Array (Nat × Operand)) (ho : o.op = .build t parts) (cs : Array Value)
    (hb : P.built t (parts.map fun (i, x) => (i, a.eval x)).toList = some cs) (h : wpList P ops Q rest (a.put o.dst (.agg cs)) w) : wpList P ops Q (o :: rest) a w :=
  wpList_build hg t parts ho (by rw [hb]; rfl) (by rw [hb]; exact h)
theorem Kept.setRow {L : List Nat} {a w : World} (h : Kept L a w) {g : Nat} (hg : g ∈ L ∨ a.heap.size ≤ g) (cs : Array Value) : Kept L a (w.setRow g cs) :=
  h.trans (M := [g]) ⟨rfl, rfl, rfl, by simp [World.setRow], fun k _ hn => setRow_other w g k _ (by simpa using hn)⟩ (by simpa using hg)
theorem f_results_cell_tmp {P : Program} {fn : Func} {p q : Tmp} {ty : TypeId} (h : fn.results = #[.cell p ty, .tmp q]) (tmps : Array Value) (w : World) (g : Nat) (t : TypeId) (cs : Array Value) (fr : Nat × Nat) (d : TypeDesc)
    (hp : tmps.getD p undef = .pointer (some ⟨g, 0, none⟩)) (hg : w.heap[g]? = some (.cells cs t fr))
    (hu : P.underlying ty = some d) (hd : (match d with | .struct _ | .array _ _ => true | _ => false) = true) (hi : (P.info? ty).map (·.size) = some cs.size) (v : Value) (hq : tmps.getD q undef = v) :
    (results fn tmps).run P w = .ok (.tuple #[.agg cs, v]) w := by
  have hp' : tmps[p]?.getD undef = .pointer (some ⟨g, 0, none⟩) := by simpa using hp
  have hq' : tmps[q]?.getD undef = v := by simpa using hq
  simp [results, h, hp', hq', asAddr, run_loadVar_row w g t ty cs fr d hg hu hd hi]
theorem put2_heap {w : World} {g : Nat} {a b : Value} {t : TypeId} (h : w.heap[g]? = some (.cells #[a, b] t (0, 0))) (x y : Value) : ((w.setCell ⟨g, 0, none⟩ x).setCell ⟨g, 1, none⟩ y).heap[g]? = some (.cells #[x, y] t (0, 0)) := by
  rw [heap_setCell_same _ g 1 _ t _ (heap_setCell_same w g 0 _ t _ h)]; rfl
theorem put2_kept {w0 w : World} (k : Kept [] w0 w) (g : Nat) (hg : w0.heap.size ≤ g) (x y : Value) : Kept [] w0 ((w.setCell ⟨g, 0, none⟩ x).setCell ⟨g, 1, none⟩ y) := (k.setCell (Or.inr hg) x).setCell (Or.inr hg) y
theorem put2_kept' (w : World) (g : Nat) (x y : Value) : Kept [g] w ((w.setCell ⟨g, 0, none⟩ x).setCell ⟨g, 1, none⟩ y) := ((Kept.refl [g] w).setCell (Or.inl (by simp)) x).setCell (Or.inl (by simp)) y
theorem Try.size_frame : (Try.prog.info? 40).map (·.size) = some 2 := by kernel_rfl

set_option maxRecDepth 100000 in
set_option maxHeartbeats 1000000 in
theorem ru32_any (b : Nat) (gv : Value) (p : List Nat) (i e : Nat) (w : World) (h : ReAt w b gv p i e) :
    Calls Try.prog 41 #[.pointer (some ⟨b, 0, none⟩)] w fun r w' => r = .returned (.int .u32 ((rNum p i e 4).1 % 4294967296 : Nat)) ∧ ReAt w' b gv p (rNum p i e 4).2.1 (rNum p i e 4).2.2 ∧ Kept [b] w w' := by
  have HR := hide h
  have hlt := ru_lt p i e 4
  obtain ⟨x, hx⟩ : ∃ x, (rNum p i e 4).1 = x := ⟨_, rfl⟩
  rw [hx] at hlt ⊢
  have Hx := hide hx
  clear h hx
  go_enter Try.func41, Try.ntmps41
  go_wp2_with (go_at_call 50; go_must (refine (rnum_any b gv p i e 4 _ (unhide HR) (by omega)).mono ?_; rintro r w1 ⟨rfl, h1, h2⟩; rw [unhide Hx]; have H1 := hide h1; have H2 := hide h2; clear h1 h2))
  go_ret
  exact ⟨by simp, unhide H1, unhide H2⟩

set_option maxRecDepth 100000 in
set_option maxHeartbeats 1000000 in
theorem ru64_any (b : Nat) (gv : Value) (p : List Nat) (i e : Nat) (w : World) (h : ReAt w b gv p i e) :
    Calls Try.prog 42 #[.pointer (some ⟨b, 0, none⟩)] w fun r w' => r = .returned (.int .u64 ((rNum p i e 8).1 : Nat)) ∧ ReAt w' b gv p (rNum p i e 8).2.1 (rNum p i e 8).2.2 ∧ Kept [b] w w' := by
  have HR := hide h
  have hlt := ru_lt p i e 8
  obtain ⟨x, hx⟩ : ∃ x, (rNum p i e 8).1 = x := ⟨_, rfl⟩
  rw [hx] at hlt ⊢
  have Hx := hide hx
  clear h hx
  go_enter Try.func42, Try.ntmps42
  go_wp2_with (go_at_call 50; go_must (refine (rnum_any b gv p i e 8 _ (unhide HR) (by omega)).mono ?_; rintro r w1 ⟨rfl, h1, h2⟩; rw [unhide Hx]; have H1 := hide h1; have H2 := hide h2; clear h1 h2))
  go_ret
  exact ⟨by simp, unhide H1, unhide H2⟩

theorem rNum_at {p : List Nat} {i n m : Nat} (hm : i + n ≤ m) (hl : m ≤ p.length) : rNum (p.take m) i 0 n = (beL ((p.drop i).take n), i + n, 0) := by
  have e : ((p.take m).drop i).take n = (p.drop i).take n := by rw [List.drop_take, List.take_take, Nat.min_eq_left (by omega)]
  unfold rNum
  rw [if_neg (by simp), if_neg (by rw [List.length_take]; omega), e]
theorem Rd.take0 {w : World} {ao : Option Addr} {cap n : Nat} {p : List Nat} (h : Rd w (.slice ao p.length cap) p) (hn : n ≤ p.length) : Rd w (.slice ao n cap) (p.take n) := by
  obtain ⟨ao', len', cap', he, _, h2, ⟨h3, h3'⟩, h4, h5, h6⟩ := h
  cases he
  refine ⟨_, _, _, rfl, by rw [List.length_take]; omega, by omega, ⟨by omega, by omega⟩, h4, fun x hx => h5 x (List.mem_of_mem_take hx), fun hp => ?_⟩
  obtain ⟨b, off, rfl, hc⟩ := h6 (by omega)
  refine ⟨b, off, rfl, fun i hi => ?_⟩
  rw [hc i (by omega), List.getD_eq_getElem?_getD, List.getD_eq_getElem?_getD, List.getElem?_take, if_pos hi]
theorem Rd.drop17 {w : World} {b off cap : Nat} {p : List Nat} (h : Rd w (.slice (some ⟨b, off, none⟩) p.length cap) p) (n : Nat) (hn : 17 + n ≤ p.length) : Rd w (.slice (some ⟨b, off + 17, none⟩) n (cap - 17)) ((p.drop 17).take n) := by
  obtain ⟨ao', len', cap', he, _, h2, ⟨h3, h3'⟩, h4, h5, h6⟩ := h
  cases he
  refine ⟨_, _, _, rfl, by rw [List.length_take, List.length_drop]; omega, by omega, ⟨by omega, by omega⟩, fun h => by simp at h, fun x hx => h5 x (List.mem_of_mem_drop (List.mem_of_mem_take hx)), fun hp => ?_⟩
  obtain ⟨b', off', e, hc⟩ := h6 (by omega)
  cases e
  refine ⟨b, off + 17, rfl, fun i hi => ?_⟩
  have := hc (17 + i) (by omega)
  rw [Nat.add_assoc, this, List.getD_eq_getElem?_getD, List.getD_eq_getElem?_getD, List.getElem?_take, if_pos hi, List.getElem?_drop]
/-- What first tells. -/
def fstPl (p : List Nat) : Nat := (firstF p).elim 0 (·.1)
def fstPay (p : List Nat) : List Nat := (firstF p).elim [] (·.2)
theorem Try.lt_of_beL {p : List Nat} (h : ∀ x ∈ p, x < 256) (i n : Nat) (hn : n ≤ 8) : beL ((p.drop i).take n) < 256 ^ n := by
  have := (f_wide_beL (r := (p.drop i).take n) (fun y hy => h y (List.mem_of_mem_drop (List.mem_of_mem_take hy))) (by rw [List.length_take]; omega)).2
  exact Nat.lt_of_lt_of_le this (Nat.pow_le_pow_right (by omega) (by rw [List.length_take]; omega))
theorem firstF_short {p : List Nat} (h : p.length < 18) : firstF p = none := by
  unfold firstF
  rw [if_neg]
  rintro ⟨_, h1, _, h2, _⟩
  omega

theorem getD_drop0 (p : List Nat) (h : ∀ x ∈ p, x < 256) (hp : 0 < p.length) : beL ((p.drop 0).take 1) = p.getD 0 0 := by
  cases p with
  | nil => simp at hp
  | cons a r =>
    have := h a (by simp)
    simp [beL]
    omega

set_option maxRecDepth 100000 in
set_option maxHeartbeats 1000000 in
theorem clone_any (v : Value) (p : List Nat) (w : World) (h : Rd w v p) (hp : 0 < p.length) :
    Calls Try.prog 43 #[v] w fun e w' => ∃ v', e = .returned v' ∧ Rd w' v' p ∧ (∀ x ∈ blk v', w.heap.size ≤ x) ∧ Kept [] w w' := by
  have H := hide h
  obtain ⟨a1, n1, c1, rfl, hn1, hc1, ⟨hc2, hc3⟩, hc4, hc5, hc6⟩ := id h
  subst hn1
  obtain ⟨b, off, rfl, _⟩ := hc6 hp
  clear h hc6 hc5 hc4
  have HO := hide (World.ownsRow_made (base := w.heap.size) (e := 5) (size := 1) w #[] 0 (Nat.le_refl _) (by unfold maxLen; omega) (by simp))
  go_enter Try.func43, Try.ntmps43
  have hq : ∀ W : World, (binOp .eql 23 (.slice (some ⟨b, off, none⟩) p.length c1) (.slice none 0 0)).run Try.prog W = .ok (.bool false) W := by
    intro W
    simp only [binOp]
    simp [run_equal_slice_nil W 23 5 (some ⟨b, off, none⟩) p.length c1 Try.underlying23]
  go_wp2_with (at_builtin; refine wpList_appendAll rfl (.tmp 5) (.tmp 6) rfl rfl _ w.heap.size (.slice (some ⟨w.heap.size, 0, none⟩) 0 0) [] p (some ⟨b, off, none⟩) p.length c1 (unhide HO) ((unhide H).old ((Kept.refl [] w).alloc _) (by simp)) (by simp; omega) (by simp) rfl rfl ?_; intro ao1 cap1 w1 HO1 HG1 HA1; simp only [List.nil_append, List.length_nil, Nat.zero_add] at HO1 HA1; have HK1 := hide (((Kept.refl [] w).alloc _).grown (unhide HG1) (by intro k hk; right; simp [Value.ownBlock] at hk; omega)); clear HG1)
  go_ret
  refine ⟨_, rfl, rd_owns (unhide HO1) (unhide H).byte hc3, ?_, unhide HK1⟩
  intro x hx
  cases ao1 with
  | none => simp [blk] at hx
  | some a => simp [blk] at hx; subst hx; exact ((unhide HO1).lt a.block rfl).1

/-- What first's payload is: new memory. -/
def NewP (w w' : World) (v : Value) (bs : List Nat) : Prop := Rd w' v bs ∧ ∀ x ∈ blk v, w.heap.size ≤ x
theorem NewP.nil (w w' : World) : NewP w w' (.slice none 0 0) [] := ⟨Rd.nil _, by simp [blk]⟩

set_option maxRecDepth 100000 in
set_option maxHeartbeats 2000000 in
theorem first_any (v : Value) (p : List Nat) (w : World) (h : Rd w v p) :
    Calls Try.prog 27 #[v] w fun e w' => ∃ v', e = .returned (.tuple #[.agg #[.int .u64 (fstPl p), v'], .bool (firstF p).isSome]) ∧ NewP w w' v' (fstPay p) ∧ Kept [] w w' := by
  have H := hide h
  obtain ⟨a1, n1, c1, rfl, hn1, hc1, ⟨hc2, hc3⟩, _, _, hcell⟩ := id h
  subst hn1
  clear h
  by_cases h18 : p.length < 18
  · have h18' : (p.length : Int) < 18 := by omega
    have HF := hide (firstF_short h18)
    have e1 : fstPl p = 0 := by simp [fstPl, unhide HF]
    have e2 : fstPay p = [] := by simp [fstPay, unhide HF]
    rw [e1, e2, unhide HF]
    clear e1 e2 hcell
    go_enter Try.func27, Try.ntmps27
    go_wp2
    refine bodyPost_ret (v := .tuple #[.agg #[.int .u64 0, .slice none 0 0], .bool false]) ?_ rfl ⟨_, rfl, NewP.nil _ _, (Kept.refl [] w).alloc _⟩
    exact f_results_cell_tmp rfl _ _ w.heap.size _ #[.int .u64 0, .slice none 0 0] (0, 0) _ rfl (heap_alloc_new _ _) Try.underlying40 rfl Try.size_frame _ rfl
  have h18' : ¬ (p.length : Int) < 18 := by omega
  obtain ⟨bb, off, rfl, hcl⟩ := hcell (by omega)
  have HCL := hide hcl
  clear hcell hcl
  have hb := (unhide H).byte
  have t17 := (unhide H).take0 (n := 17) (by omega)
  have HT := hide t17
  have Hn1 := hide (rNum_at (p := p) (i := 0) (n := 1) (m := 17) (by omega) (by omega))
  have Hn4 := hide (rNum_at (p := p) (i := 1) (n := 4) (m := 17) (by omega) (by omega))
  have Hn8 := hide (rNum_at (p := p) (i := 5) (n := 8) (m := 17) (by omega) (by omega))
  have Hns := hide (rNum_at (p := p) (i := 13) (n := 4) (m := 17) (by omega) (by omega))
  have ln := Try.lt_of_beL hb 1 4 (by omega)
  have lpl := Try.lt_of_beL hb 5 8 (by omega)
  have ls := Try.lt_of_beL hb 13 4 (by omega)
  rw [getD_drop0 p hb (by omega)] at Hn1
  have HFF := hide (rfl : firstF p = firstF p)
  unfold Hid at HFF
  conv at HFF => rhs; unfold firstF
  have lb : p.getD 0 0 < 256 := hb _ (by rw [List.getD_eq_getElem?_getD, List.getElem?_eq_getElem (show 0 < p.length by omega)]; exact List.getElem_mem _)
  obtain ⟨b0, hb0⟩ : ∃ x, p.getD 0 0 = x := ⟨_, rfl⟩
  obtain ⟨n, hn⟩ : ∃ x, beL ((p.drop 1).take 4) = x := ⟨_, rfl⟩
  obtain ⟨pl, hpl⟩ : ∃ x, beL ((p.drop 5).take 8) = x := ⟨_, rfl⟩
  obtain ⟨s, hs⟩ : ∃ x, beL ((p.drop 13).take 4) = x := ⟨_, rfl⟩
  rw [hn] at Hn4 HFF ln
  rw [hpl] at Hn8 HFF lpl
  rw [hs] at Hns HFF ls
  rw [hb0] at Hn1 HFF lb
  have HF := hide HFF
  clear HFF t17 hb0 hn hpl hs hb
  obtain ⟨X, hX⟩ : ∃ x, fstPl p = x := ⟨_, rfl⟩
  obtain ⟨Y, hY⟩ : ∃ x, fstPay p = x := ⟨_, rfl⟩
  obtain ⟨Z, hZ⟩ : ∃ x, (firstF p).isSome = x := ⟨_, rfl⟩
  rw [hX, hY, hZ]
  have HX := hide hX
  have HY := hide hY
  have HZ := hide hZ
  clear hX hY hZ
  go_enter Try.func27, Try.ntmps27
  have HZ0 := hide (heap_alloc_new w (.cells #[.int .u64 0, .slice none 0 0] 40))
  have HK0 := hide ((Kept.refl [] w).alloc (.cells #[.int .u64 0, .slice none 0 0] 40))
  go_wp2_with fail
  obtain ⟨W, hW⟩ : ∃ W, w.alloc (.cells #[.int .u64 0, .slice none 0 0] 40) = W := ⟨_, rfl⟩
  rw [hW] at HK0 HZ0 ⊢
  clear hW
  refine Calls.mono (newReader_any _ (p.take 17) W ((unhide HT).old (unhide HK0) (by simp))) ?_
  rintro e w1 ⟨b, gv, rfl, hb1, r1, hg1, k1⟩
  have HR1 := hide r1
  have HK1 := hide k1
  have Hb := hide hb1
  clear r1 k1 hg1 hb1
  go_wp2_with fail
  refine Calls.mono (ru8_any b gv (p.take 17) 0 0 w1 (unhide HR1)) ?_
  rintro e w2 ⟨rfl, r2, k2⟩
  rw [unhide Hn1] at r2 ⊢
  rw [show (b0, 0 + 1, 0).1 % 256 = b0 from Nat.mod_eq_of_lt lb]
  have HR2 := hide r2
  have HK2 := hide (((unhide HK1).trans k2 (by have := unhide Hb; simp; omega)))
  clear r2 k2 HR1 HK1
  go_wp2_with fail
  refine Calls.mono (ru32_any b gv (p.take 17) 1 0 w2 (unhide HR2)) ?_
  rintro e w3 ⟨rfl, r3, k3⟩
  rw [unhide Hn4] at r3 ⊢
  rw [show (n, 1 + 4, 0).1 % 4294967296 = n from Nat.mod_eq_of_lt ln]
  have HR3 := hide r3
  have HK3 := hide (((unhide HK2).trans k3 (by have := unhide Hb; simp; omega)))
  clear r3 k3 HR2 HK2
  go_wp2_with fail
  refine Calls.mono (ru64_any b gv (p.take 17) 5 0 w3 (unhide HR3)) ?_
  rintro e w4 ⟨rfl, r4, k4⟩
  rw [unhide Hn8] at r4 ⊢
  have HR4 := hide r4
  have HK4 := hide (((unhide HK3).trans k4 (by have := unhide Hb; simp; omega)))
  clear r4 k4 HR3 HK3
  go_wp2_with fail
  refine Calls.mono (ru32_any b gv (p.take 17) 13 0 w4 (unhide HR4)) ?_
  rintro e w5 ⟨rfl, r5, k5⟩
  rw [unhide Hns]
  rw [show (s, 13 + 4, 0).1 % 4294967296 = s from Nat.mod_eq_of_lt ls]
  have HK5 := hide (((unhide HK4).trans k5 (by have := unhide Hb; simp; omega)))
  clear r5 k5 HR4 HK4
  simp only
  have HZ5 := hide ((unhide HK5).heap (unhide HZ0) (by simp))
  have HKW := hide ((unhide HK0).trans (unhide HK5) (by simp))
  have HNO := hide (fun (h : firstF p = none) => by
    rw [← unhide HX, ← unhide HY, ← unhide HZ]
    exact ⟨by simp [fstPl, h], by simp [fstPay, h], by rw [h]; rfl⟩ : firstF p = none → X = 0 ∧ Y = [] ∧ Z = false)
  have HQ0 := hide (put2_heap (unhide HZ5) (.int .u64 0) (.slice none 0 0))
  have HKQ := hide (put2_kept (unhide HKW) w.heap.size (Nat.le_refl _) (.int .u64 0) (.slice none 0 0))
  have d0 : w5.cell? ⟨w.heap.size, 0, none⟩ = some (.int .u64 0) := by rw [cell_of_row _ _ _ _ _ _ (unhide HZ5)]; rfl
  have d1 : w5.cell? ⟨w.heap.size, 1, none⟩ = some (.slice none 0 0) := by rw [cell_of_row _ _ _ _ _ _ (unhide HZ5)]; rfl
  have f0 : w5.frozen? ⟨w.heap.size, 0, none⟩ = false := frozen_of_row _ _ _ _ _ (unhide HZ5)
  have f1 : w5.frozen? ⟨w.heap.size, 1, none⟩ = false := frozen_of_row _ _ _ _ _ (unhide HZ5)
  by_cases hA0 : b0 = 245
  · subst hA0
    by_cases hA1 : n = 0
    · have HFn := hide (unhide HNO (by rw [unhide HF, if_neg]; rintro ⟨_, h, _⟩; omega))
      subst hA1
      go_wp2
      refine bodyPost_ret (v := .tuple #[.agg #[.int .u64 0, .slice none 0 0], .bool false]) ?_ rfl ⟨_, by rw [(unhide HFn).1, (unhide HFn).2.2]; rfl, by rw [(unhide HFn).2.1]; exact NewP.nil _ _, unhide HKQ⟩
      exact f_results_cell_tmp rfl _ _ w.heap.size _ #[.int .u64 0, .slice none 0 0] (0, 0) _ rfl (unhide HQ0) Try.underlying40 rfl Try.size_frame _ rfl
    have hA1' : ((n : Int) == 0) = false := by rw [beq_eq_false_iff_ne]; omega
    by_cases hA2 : 65535 < n
    · have HFn := hide (unhide HNO (by rw [unhide HF, if_neg]; rintro ⟨_, _, h, _⟩; omega))
      have hA2' : (65535 : Int) < n := by omega
      go_wp2
      refine bodyPost_ret (v := .tuple #[.agg #[.int .u64 0, .slice none 0 0], .bool false]) ?_ rfl ⟨_, by rw [(unhide HFn).1, (unhide HFn).2.2]; rfl, by rw [(unhide HFn).2.1]; exact NewP.nil _ _, unhide HKQ⟩
      exact f_results_cell_tmp rfl _ _ w.heap.size _ #[.int .u64 0, .slice none 0 0] (0, 0) _ rfl (unhide HQ0) Try.underlying40 rfl Try.size_frame _ rfl
    have hA2' : ¬ (65535 : Int) < n := by omega
    by_cases hB : 17 + n < p.length
    · have hB' : (17 : Int) + n < p.length := by omega
      have hB2 : ¬ (p.length : Int) ≤ 17 + n := by omega
      have cE := (unhide HKW).cell (unhide HCL (17 + n) hB) (by simp)
      obtain ⟨pe, hpe⟩ : ∃ x, p.getD (17 + n) 0 = x := ⟨_, rfl⟩
      rw [hpe] at cE HF
      clear hpe
      by_cases hE : pe = 95
      · subst hE
        have HPD := hide (((unhide H).drop17 n (by omega)).old (unhide HKW) (by simp))
        go_wp2_with fail
        refine Calls.mono (sumOf_any pl _ ((p.drop 17).take n) w5 (unhide HPD) lpl (by rw [List.length_take]; omega)) ?_
        rintro e w6 ⟨rfl, k6⟩
        have HZ6 := hide (k6.heap (unhide HZ5) (by simp))
        have HKW6 := hide ((unhide HKW).trans k6 (by simp))
        have HPD6 := hide ((unhide HPD).old k6 (by simp))
        have HQ6 := hide (put2_heap (unhide HZ6) (.int .u64 0) (.slice none 0 0))
        have HKQ6 := hide (put2_kept (unhide HKW6) w.heap.size (Nat.le_refl _) (.int .u64 0) (.slice none 0 0))
        clear k6 d0 d1 f0 f1
        have d0 : w6.cell? ⟨w.heap.size, 0, none⟩ = some (.int .u64 0) := by rw [cell_of_row _ _ _ _ _ _ (unhide HZ6)]; rfl
        have d1 : w6.cell? ⟨w.heap.size, 1, none⟩ = some (.slice none 0 0) := by rw [cell_of_row _ _ _ _ _ _ (unhide HZ6)]; rfl
        have f0 : w6.frozen? ⟨w.heap.size, 0, none⟩ = false := frozen_of_row _ _ _ _ _ (unhide HZ6)
        have f1 : w6.frozen? ⟨w.heap.size, 1, none⟩ = false := frozen_of_row _ _ _ _ _ (unhide HZ6)
        obtain ⟨q, hq⟩ : ∃ q, (p.drop 17).take n = q := ⟨_, rfl⟩
        have hql : q.length = n := by rw [← hq, List.length_take, List.length_drop]; omega
        rw [hq] at HPD6 HF ⊢
        clear hq
        obtain ⟨t, ht⟩ : ∃ t, sumF pl q = t := ⟨_, rfl⟩
        rw [ht] at HF ⊢
        clear ht
        by_cases hS : t = s
        · subst hS
          have HFs := hide (by rw [unhide HF, if_pos (by simp; omega)] : firstF p = some (pl, q))
          have HV := hide (by
            rw [← unhide HX, ← unhide HY, ← unhide HZ]
            exact ⟨by simp [fstPl, unhide HFs], by simp [fstPay, unhide HFs], by rw [unhide HFs]; rfl⟩ : X = pl ∧ Y = q ∧ Z = true)
          go_wp2_with fail
          refine Calls.mono (clone_any _ q w6 (unhide HPD6) (by omega)) ?_
          rintro e w7 ⟨v7, rfl, r7, b7, k7⟩
          obtain ⟨a7, n7, c7, hv7, _⟩ := id r7
          have HZ7 := hide (k7.heap (unhide HZ6) (by simp))
          have HQ7 := hide (put2_heap (unhide HZ7) (.int .u64 pl) v7)
          have HK7 := hide ((unhide HKW6).trans k7 (by simp))
          have hlt6 : w.heap.size < w6.heap.size := lt_of_block (unhide HZ6)
          have HN7 := hide (⟨r7.kept (put2_kept' w7 w.heap.size (.int .u64 pl) v7) (by intro x hx; have := b7 x hx; simp; omega), fun x hx => by have := b7 x hx; omega⟩ : NewP w _ v7 q)
          have HKQ7 := hide (put2_kept (unhide HK7) w.heap.size (Nat.le_refl _) (.int .u64 pl) v7)
          clear k7 d0 d1 f0 f1 r7 b7
          subst hv7
          have d0 : w7.cell? ⟨w.heap.size, 0, none⟩ = some (.int .u64 0) := by rw [cell_of_row _ _ _ _ _ _ (unhide HZ7)]; rfl
          have d1 : w7.cell? ⟨w.heap.size, 1, none⟩ = some (.slice none 0 0) := by rw [cell_of_row _ _ _ _ _ _ (unhide HZ7)]; rfl
          have f0 : w7.frozen? ⟨w.heap.size, 0, none⟩ = false := frozen_of_row _ _ _ _ _ (unhide HZ7)
          have f1 : w7.frozen? ⟨w.heap.size, 1, none⟩ = false := frozen_of_row _ _ _ _ _ (unhide HZ7)
          go_wp2
          refine bodyPost_ret (v := .tuple #[.agg #[.int .u64 pl, .slice a7 n7 c7], .bool true]) ?_ rfl ⟨.slice a7 n7 c7, by rw [(unhide HV).1, (unhide HV).2.2], by rw [(unhide HV).2.1]; exact unhide HN7, unhide HKQ7⟩
          exact f_results_cell_tmp rfl _ _ w.heap.size _ #[.int .u64 pl, .slice a7 n7 c7] (0, 0) _ rfl (unhide HQ7) Try.underlying40 rfl Try.size_frame _ rfl
        · have hS' : ((t : Int) != s) = true := by rw [bne_iff_ne]; omega
          have HFn := hide (unhide HNO (by rw [unhide HF, if_neg]; rintro ⟨_, _, _, _, _, h⟩; exact hS h))
          go_wp2
          refine bodyPost_ret (v := .tuple #[.agg #[.int .u64 0, .slice none 0 0], .bool false]) ?_ rfl ⟨_, by rw [(unhide HFn).1, (unhide HFn).2.2]; rfl, by rw [(unhide HFn).2.1]; exact NewP.nil _ _, unhide HKQ6⟩
          exact f_results_cell_tmp rfl _ _ w.heap.size _ #[.int .u64 0, .slice none 0 0] (0, 0) _ rfl (unhide HQ6) Try.underlying40 rfl Try.size_frame _ rfl
      · have hE' : ((pe : Int) != 95) = true := by rw [bne_iff_ne]; omega
        have HFn := hide (unhide HNO (by rw [unhide HF, if_neg]; rintro ⟨_, _, _, _, h, _⟩; exact hE h))
        go_wp2
        refine bodyPost_ret (v := .tuple #[.agg #[.int .u64 0, .slice none 0 0], .bool false]) ?_ rfl ⟨_, by rw [(unhide HFn).1, (unhide HFn).2.2]; rfl, by rw [(unhide HFn).2.1]; exact NewP.nil _ _, unhide HKQ⟩
        exact f_results_cell_tmp rfl _ _ w.heap.size _ #[.int .u64 0, .slice none 0 0] (0, 0) _ rfl (unhide HQ0) Try.underlying40 rfl Try.size_frame _ rfl
    · have hB' : (p.length : Int) ≤ 17 + n := by omega
      have HFn := hide (unhide HNO (by rw [unhide HF, if_neg]; rintro ⟨_, _, _, h, _⟩; exact hB h))
      go_wp2
      refine bodyPost_ret (v := .tuple #[.agg #[.int .u64 0, .slice none 0 0], .bool false]) ?_ rfl ⟨_, by rw [(unhide HFn).1, (unhide HFn).2.2]; rfl, by rw [(unhide HFn).2.1]; exact NewP.nil _ _, unhide HKQ⟩
      exact f_results_cell_tmp rfl _ _ w.heap.size _ #[.int .u64 0, .slice none 0 0] (0, 0) _ rfl (unhide HQ0) Try.underlying40 rfl Try.size_frame _ rfl
  · have hA0' : ((b0 : Int) != 245) = true := by rw [bne_iff_ne]; omega
    have HFn := hide (unhide HNO (by rw [unhide HF, if_neg]; rintro ⟨h, _⟩; exact hA0 h))
    go_wp2
    refine bodyPost_ret (v := .tuple #[.agg #[.int .u64 0, .slice none 0 0], .bool false]) ?_ rfl ⟨_, by rw [(unhide HFn).1, (unhide HFn).2.2]; rfl, by rw [(unhide HFn).2.1]; exact NewP.nil _ _, unhide HKQ⟩
    exact f_results_cell_tmp rfl _ _ w.heap.size _ #[.int .u64 0, .slice none 0 0] (0, 0) _ rfl (unhide HQ0) Try.underlying40 rfl Try.size_frame _ rfl
end Go.Proofs.Ytjbmafjnbncbpaa
