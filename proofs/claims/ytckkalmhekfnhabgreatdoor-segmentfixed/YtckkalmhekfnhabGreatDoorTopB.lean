import Derived.Test.YtckkalmhekfnhabGreatDoorSFm
import Derived.Test.YtckkalmhekfnhabGreatDoorTopA
import Derived.Test.YtckkalmhekfnhabGreatDoorFEnc
import Derived.Laws.Cover3
import Derived.Deep.RegionHeld3
import Derived.Test.YtckkalmhekfnhabGreatDoorTSame
import Derived.Test.YtckkalmhekfnhabGreatDoorCat
namespace Go.Proofs.YtckkalmhekfnhabGreatDoor
open Go.RowKit Go.BigFrame
set_option linter.unusedVariables false
set_option linter.unusedSimpArgs false

set_option maxRecDepth 100000 in
set_option maxHeartbeats 1000000 in
theorem fmtU_any (u : Nat) (w : World) (hu : u < 18446744073709551616) (hv : VarsS w) :
    Calls Tryz.prog 28 #[.int .u64 u, .int .i64 10] w fun e w' => e = .returned (.string (strB (dgs (Lib.nDigits u) u))) ∧ Kept [] w w' := by
  go_enter Tryz.func28, Tryz.ntmps28
  go_wp2_with fail
  refine Calls.mono (ifmtU_any u _ hu hv) ?_
  rintro e w1 ⟨rfl, k1⟩
  have HK := hide k1
  clear k1
  go_wp2
  go_ret
  exact ⟨rfl, unhide HK⟩

set_option maxRecDepth 100000 in
set_option maxHeartbeats 1000000 in
theorem rep0_any (k : Nat) (w : World) (hk : k ≤ 20) : Calls Tryz.prog 29 #[.string ⟨#[48]⟩, .int .i64 k] w fun e w' => e = .returned (.string (strB (List.replicate k 48))) ∧ w' = w := by
  by_cases h0 : k = 0
  · subst h0
    go_enter Tryz.func29, Tryz.ntmps29
    go_wp2
    go_ret
    exact ⟨rfl, rfl⟩
  by_cases h1 : k = 1
  · subst h1
    go_enter Tryz.func29, Tryz.ntmps29
    go_wp2
    go_ret
    exact ⟨rfl, rfl⟩
  refine (repeat_any k w (by omega) hk).mono fun e w' h => ⟨?_, h.2⟩
  rw [h.1, zer_rep ⟨k, by omega⟩]

set_option maxRecDepth 100000 in
set_option maxHeartbeats 2000000 in
theorem name_any (u : Nat) (w : World) (hu : u < 18446744073709551616) (hv : VarsS w) :
    Calls Tryz.prog 7 #[.int .u64 u] w fun e w' => e = .returned (.string (strB (nmL u))) ∧ Kept [] w w' := by
  have HP := hide (Lib.lt_pow_nDigits u)
  have HN := hide (by
    by_cases h0 : u = 0
    · subst h0; rw [Lib.nDigits_small (by omega)]; omega
    · have := Lib.numDigits_eq u (by omega) hu; split at this <;> omega : Lib.nDigits u ≤ 20)
  have HF := hide (fmtU_any u w hu hv)
  obtain ⟨nd, hnd⟩ : ∃ nd, Lib.nDigits u = nd := ⟨_, rfl⟩
  rw [hnd] at HP HN HF
  clear hnd hv
  have HS := hide (strB_size (dgs nd u))
  rw [dgs_len] at HS
  have HE := hide (by
    have h1 := dgs_pad nd u (unhide HP) (20 - nd)
    rw [Nat.sub_add_cancel (unhide HN)] at h1
    unfold nmL
    rw [h1, strB_app, strB_app, ← ByteArray.append_assoc]
    rfl : strB (nmL u) = (⟨#[115, 101, 103, 45]⟩ : ByteArray) ++ strB (List.replicate (20 - nd) 48) ++ strB (dgs nd u))
  obtain ⟨D, hD⟩ : ∃ D, strB (dgs nd u) = D := ⟨_, rfl⟩
  rw [hD] at HF HS HE
  clear hD
  have hsz : (D.size : Int) = nd := by rw [unhide HS]
  have hz0 : (strB (List.replicate (20 - nd) 48)).size = 20 - nd := by rw [strB_size, List.length_replicate]
  have hz1 : ¬ 9223372036854775807 < 4 + (strB (List.replicate (20 - nd) 48)).size := by omega
  have hz2 : ¬ 9223372036854775807 < 4 + (strB (List.replicate (20 - nd) 48)).size + D.size := by have := unhide HS; have := unhide HN; omega
  clear hz0
  have hsub : (20 : Int) - (nd : Int) = ((20 - nd : Nat) : Int) := by have := unhide HN; omega
  go_enter Tryz.func7, Tryz.ntmps7
  go_wp2_with fail
  refine Calls.mono (unhide HF) ?_
  rintro e w1 ⟨rfl, k1⟩
  have HK := hide k1
  clear k1
  go_wp2_with fail
  refine Calls.mono (rep0_any (20 - nd) _ (by omega)) ?_
  rintro e w2 ⟨rfl, rfl⟩
  go_wp2
  go_ret
  exact ⟨by rw [unhide HE]; rfl, unhide HK⟩

theorem row20 {j u : Nat} (hj : j < 20) : (((List.replicate (20 - j) 0 ++ dgs j u).map Go.Proofs.YtckkalmhekfnhabGreatDoor.u8).toArray).setIfInBounds (19 - j) (Go.Proofs.YtckkalmhekfnhabGreatDoor.u8 (48 + u / 10 ^ j % 10)) = ((List.replicate (20 - (j + 1)) 0 ++ dgs (j + 1) u).map Go.Proofs.YtckkalmhekfnhabGreatDoor.u8).toArray := by
  rw [dgs_cons, show 20 - j = (20 - (j + 1)) + 1 by omega, List.replicate_succ', show 19 - j = 20 - (j + 1) by omega]
  simp [List.set_append]

end Go.Proofs.YtckkalmhekfnhabGreatDoor
namespace Go.Proofs.YtckkalmhekfnhabGreatDoor
open Go.RowKit Go.BigFrame
set_option linter.unusedVariables false
set_option linter.unusedSimpArgs false

theorem pre_is (l : List Nat) : (strB ([115, 101, 103, 45] ++ l)).data.toList.take 4 = [115, 101, 103, 45] := by simp [strB]
theorem pre_cut (l : List Nat) : (strB ([115, 101, 103, 45] ++ l)).extract 4 (strB ([115, 101, 103, 45] ++ l)).size = strB l := by
  apply ByteArray.ext
  rw [ByteArray.data_extract, strB_size]
  simp [strB]
  rw [List.take_of_length_le (by simp)]

set_option maxRecDepth 100000 in
set_option maxHeartbeats 1000000 in
theorem hasSeg_any (s : ByteArray) (w : World) (hs : s.size ≤ 140737488355328) :
    Calls Tryz.prog 93 #[.string s, .string ⟨#[115, 101, 103, 45]⟩] w fun e w' => e = .returned (.bool (decide (4 ≤ s.size ∧ s.data.toList.take 4 = [115, 101, 103, 45]))) ∧ w' = w := by
  by_cases h4 : 4 ≤ s.size
  · have h1 : (4 : Int) ≤ s.size := by omega
    have HE := hide (by
      rw [ba_toListS, ext_take]
      by_cases h : s.data.toList.take 4 = [115, 101, 103, 45]
      · rw [decide_eq_true ⟨h4, h⟩, h]; decide
      · rw [decide_eq_false (fun x => h x.2)]; exact beq_eq_false_iff_ne.2 h : ((s.extract 0 4).toList == [115, 101, 103, 45]) = decide (4 ≤ s.size ∧ s.data.toList.take 4 = [115, 101, 103, 45]))
    go_enter Tryz.func93, Tryz.ntmps93
    go_wp2
    go_ret
    exact ⟨by rw [← unhide HE]; rfl, rfl⟩
  · have h1 : ¬ (4 : Int) ≤ s.size := by omega
    rw [decide_eq_false (fun x => h4 x.1)]
    go_enter Tryz.func93, Tryz.ntmps93
    go_wp2
    go_ret
    exact ⟨rfl, rfl⟩

set_option maxRecDepth 100000 in
set_option maxHeartbeats 1000000 in
theorem itrim_any (s : ByteArray) (w : World) (hs : s.size ≤ 140737488355328) :
    Calls Tryz.prog 59 #[.string s, .string ⟨#[115, 101, 103, 45]⟩] w fun e w' => ∃ t, e = .returned (.string t) ∧ t.size ≤ s.size ∧ (∀ l, s = strB ([115, 101, 103, 45] ++ l) → t = strB l) ∧ w' = w := by
  have HS := hide (hasSeg_any s w hs)
  by_cases hc : 4 ≤ s.size ∧ s.data.toList.take 4 = [115, 101, 103, 45]
  · rw [decide_eq_true hc] at HS
    have h1 : (4 : Int) ≤ s.size := by have := hc.1; omega
    clear hc
    go_enter Tryz.func59, Tryz.ntmps59
    go_wp2_with fail
    refine Calls.mono (unhide HS) ?_
    rintro e w1 ⟨rfl, rfl⟩
    go_wp2
    go_ret
    exact ⟨_, rfl, by simp, fun l hl => by subst hl; exact pre_cut l, rfl⟩
  · rw [decide_eq_false hc] at HS
    have HC := hide hc
    clear hc
    go_enter Tryz.func59, Tryz.ntmps59
    go_wp2_with fail
    refine Calls.mono (unhide HS) ?_
    rintro e w1 ⟨rfl, rfl⟩
    go_wp2
    go_ret
    exact ⟨_, rfl, Nat.le_refl _, fun l hl => absurd ⟨by rw [hl, strB_size]; simp, by rw [hl]; exact pre_is l⟩ (unhide HC), rfl⟩

set_option maxRecDepth 100000 in
set_option maxHeartbeats 1000000 in
theorem trim_any (s : ByteArray) (w : World) (hs : s.size ≤ 140737488355328) :
    Calls Tryz.prog 31 #[.string s, .string ⟨#[115, 101, 103, 45]⟩] w fun e w' => ∃ t, e = .returned (.string t) ∧ t.size ≤ s.size ∧ (∀ l, s = strB ([115, 101, 103, 45] ++ l) → t = strB l) ∧ w' = w := by
  go_enter Tryz.func31, Tryz.ntmps31
  go_wp2_with fail
  refine Calls.mono (itrim_any s _ hs) ?_
  rintro e w1 ⟨t, rfl, h1, h2, rfl⟩
  have H1 := hide h1
  have H2 := hide h2
  clear h1 h2
  go_wp2
  go_ret
  exact ⟨t, rfl, unhide H1, unhide H2, rfl⟩

/-- ParseUint of any string. -/
theorem parse2_any (s : ByteArray) (w : World) (hs : s.size ≤ 140737488355328) (hv : VarsS w) :
    Calls Tryz.prog 30 #[.string s, .int .i64 10, .int .i64 64] w fun e w' => ∃ (u : Nat) (er : Value), e = .returned (.tuple #[.int .u64 u, er]) ∧ u < 18446744073709551616 ∧ (er = .nilIface ∨ ∃ t N, er = .iface t (.pointer (some ⟨N, 0, none⟩))) ∧ Kept [] w w' := by
  obtain ⟨_, ⟨t1, p1, h1⟩, t2, p2, h2⟩ := hv
  cases h : Lib.parseUintB 64 s.data.toList with
  | ok u =>
    refine (Tryz.strconv_ParseUint_10_at64_ok s (by omega) u h w).mono fun e w' hh => ⟨u, .nilIface, hh.1, by have := Lib.parseUintB_le h; omega, Or.inl rfl, ?_⟩
    rcases hh.2 with rfl | rfl
    · exact Kept.refl _ _
    · exact sbw_kept _ _ _
  | «syntax» =>
    refine (Tryz.strconv_ParseUint_10_at64_syntax_var s (by omega) h t1 p1 w h1).mono fun e w' hh => ?_
    obtain ⟨N, h3, _, _, h4⟩ := hh
    exact ⟨0, _, h3, by omega, Or.inr ⟨_, _, rfl⟩, Kept.ofBelow h4 (Nat.le_refl _)⟩
  | range =>
    refine (Tryz.strconv_ParseUint_10_at64_range_var s (by omega) h t2 p2 w h2).mono fun e w' hh => ?_
    obtain ⟨N, h3, _, _, h4⟩ := hh
    exact ⟨18446744073709551615, _, h3, by omega, Or.inr ⟨_, _, rfl⟩, Kept.ofBelow h4 (Nat.le_refl _)⟩

theorem str_ne {s t : ByteArray} (h : s ≠ t) : (s.toList == t.toList) = false := by
  rw [ba_toListS, ba_toListS]
  refine beq_eq_false_iff_ne.2 fun e => h ?_
  apply ByteArray.ext
  exact Array.toList_inj.1 e

set_option maxRecDepth 100000 in
set_option maxHeartbeats 1000000 in
theorem number_yes (u : Nat) (w : World) (hu : u < 18446744073709551616) (hv : VarsS w) :
    Calls Tryz.prog 8 #[.string (strB (nmL u))] w fun e w' => e = .returned (.tuple #[.int .u64 u, .int .i64 0]) ∧ Kept [] w w' := by
  have HV := hide hv
  have HSZ := hide (by rw [strB_size, nmL_len]; omega : (strB (nmL u)).size ≤ 140737488355328)
  have HT := hide (fun t (h : ∀ l, strB (nmL u) = strB ([115, 101, 103, 45] ++ l) → t = strB l) => h (dgs 20 u) rfl : ∀ t : ByteArray, (∀ l, strB (nmL u) = strB ([115, 101, 103, 45] ++ l) → t = strB l) → t = strB (dgs 20 u))
  have HP := hide (fun W => parse_any (dgs 20 u) W (by rw [dgs_len]; omega) (by rw [dgs_len]; omega) (dgs_dig 20 u) (by rw [dval_dgs, Nat.mod_eq_of_lt (by omega)]; exact hu))
  simp only [dval_dgs, Nat.mod_eq_of_lt (show u < 10 ^ 20 by omega)] at HP
  have HN := hide (fun W (h : VarsS W) => name_any u W hu h)
  obtain ⟨S, hS⟩ : ∃ S, strB (nmL u) = S := ⟨_, rfl⟩
  rw [hS] at HSZ HT HN ⊢
  have heq : (S.toList == S.toList) = true := by simp
  clear hS hv
  go_enter Tryz.func8, Tryz.ntmps8
  go_wp2_with fail
  refine Calls.mono (trim_any S _ (unhide HSZ)) ?_
  rintro e w1 ⟨t, rfl, _, h2, rfl⟩
  obtain rfl := unhide HT t h2
  clear h2
  go_wp2_with fail
  refine Calls.mono (unhide HP _) ?_
  rintro e w2 ⟨rfl, k2⟩
  have HK2 := hide k2
  clear k2
  go_wp2_with fail
  refine Calls.mono (unhide HN _ ((unhide HV).old (unhide HK2))) ?_
  rintro e w3 ⟨rfl, k3⟩
  have HK3 := hide ((unhide HK2).trans k3 (by simp))
  clear k3
  go_wp2
  go_ret2
  exact ⟨rfl, unhide HK3⟩

set_option maxRecDepth 100000 in
set_option maxHeartbeats 1000000 in
theorem number_no (s : ByteArray) (w : World) (hs : s.size ≤ 140737488355328) (h : ∀ u, u < 18446744073709551616 → s ≠ strB (nmL u)) (hv : VarsS w) :
    Calls Tryz.prog 8 #[.string s] w fun e w' => e = .returned (.tuple #[.int .u64 0, .int .i64 3]) ∧ Kept [] w w' := by
  have HV := hide hv
  have HH := hide h
  clear h hv
  go_enter Tryz.func8, Tryz.ntmps8
  go_wp2_with fail
  refine Calls.mono (trim_any s _ hs) ?_
  rintro e w1 ⟨t, rfl, h1, _, rfl⟩
  have H1 := hide h1
  clear h1
  go_wp2_with fail
  refine Calls.mono (parse2_any t _ (by have := unhide H1; omega) (unhide HV)) ?_
  rintro e w2 ⟨u, er, rfl, hu, her, k2⟩
  have HK2 := hide k2
  clear k2
  rcases her with rfl | ⟨t9, N9, rfl⟩
  · go_wp2_with fail
    refine Calls.mono (name_any u _ hu ((unhide HV).old (unhide HK2))) ?_
    rintro e w3 ⟨rfl, k3⟩
    have HK3 := hide ((unhide HK2).trans k3 (by simp))
    clear k3
    have hne := str_ne (fun e => unhide HH u hu e.symm)
    generalize strB (nmL u) = S at hne ⊢
    go_wp2
    go_ret2
    exact ⟨rfl, unhide HK3⟩
  · go_wp2
    go_ret2
    exact ⟨rfl, unhide HK2⟩
end Go.Proofs.YtckkalmhekfnhabGreatDoor
namespace Go.Proofs.YtckkalmhekfnhabGreatDoor
open Go.RowKit Go.BigFrame
set_option linter.unusedVariables false
set_option linter.unusedSimpArgs false

/-- One digit more, as DocNumber adds them up. -/
def stp (v c : Nat) : Nat := (10 * v + c + 18446744073709551568) % 18446744073709551616
theorem stp_lt (v c : Nat) : stp v c < 18446744073709551616 := by unfold stp; exact Nat.mod_lt _ (Nat.zero_lt_succ _)
theorem stp_dig {v c : Nat} (h : 48 ≤ c) (hl : v * 10 + (c - 48) < 18446744073709551616) : stp v c = v * 10 + (c - 48) := by unfold stp; omega
theorem stp_int (v c : Nat) (hc : c < 256) : IntKind.u64.wrap (IntKind.u64.wrap (IntKind.u64.wrap (10 * (v : Int)) + IntKind.u64.wrap (c : Int)) - 48) = ((stp v c : Nat) : Int) := by
  rw [IntKind.wrap_u64, IntKind.wrap_u64, IntKind.wrap_u64, IntKind.wrap_u64]
  unfold stp
  omega
def dv (a : Nat) (m : List Nat) : Nat := m.foldl stp a
theorem dv_cons (a x : Nat) (r : List Nat) : dv a (x :: r) = dv (stp a x) r := by unfold dv; rw [List.foldl_cons]
theorem dv_snoc (a : Nat) (m : List Nat) (c : Nat) : dv a (m ++ [c]) = stp (dv a m) c := by unfold dv; rw [List.foldl_append, List.foldl_cons, List.foldl_nil]
theorem dv_lt (m : List Nat) : ∀ a, a < 18446744073709551616 → dv a m < 18446744073709551616 := by
  induction m with
  | nil => intro a h; exact h
  | cons x r ih => intro a h; rw [dv_cons]; exact ih _ (stp_lt _ _)
def fd (a : Nat) (m : List Nat) : Nat := m.foldl (fun a d => a * 10 + (d - 48)) a
theorem fd_cons (a x : Nat) (r : List Nat) : fd a (x :: r) = fd (a * 10 + (x - 48)) r := by unfold fd; rw [List.foldl_cons]
theorem fd_ge (m : List Nat) : ∀ a, a ≤ fd a m := by
  induction m with
  | nil => intro a; exact Nat.le_refl _
  | cons x r ih => intro a; rw [fd_cons]; exact Nat.le_trans (by omega) (ih _)
theorem dv_fold (m : List Nat) : ∀ a, (∀ x ∈ m, 48 ≤ x) → fd a m < 18446744073709551616 → dv a m = fd a m := by
  induction m with
  | nil => intro a _ _; unfold dv fd; rw [List.foldl_nil, List.foldl_nil]
  | cons x r ih =>
    intro a hx hl
    rw [fd_cons] at hl ⊢
    have h1 := fd_ge r (a * 10 + (x - 48))
    rw [dv_cons, stp_dig (hx x (by simp)) (Nat.lt_of_le_of_lt h1 hl)]
    exact ih _ (fun y hy => hx y (by simp [hy])) hl
theorem dv_name {u : Nat} (hu : u < 18446744073709551616) : dv 0 ((nmL u).drop 4) = u := by
  have h0 : (nmL u).drop 4 = dgs 20 u := by unfold nmL; simp
  have h1 : fd 0 (dgs 20 u) = u := by
    have h2 := dval_dgs 20 u
    rw [Nat.mod_eq_of_lt (Nat.lt_of_lt_of_le hu (by decide))] at h2
    exact h2
  rw [h0, dv_fold _ 0 (fun x hx => (dgs_dig 20 u x hx).1) (by rw [h1]; exact hu)]
  exact h1

end Go.Proofs.YtckkalmhekfnhabGreatDoor
namespace Go.Proofs.YtckkalmhekfnhabGreatDoor
open Go.RowKit
set_option linter.unusedVariables false
set_option linter.unusedSimpArgs false

/-- A literal of an array, as a row that is known. -/
theorem f_build_as {P : Program} {ops : Array Oper} {rest : List Oper} {o : Oper} {a : Act} {w : World} {Q : Exit → Act → World → Prop} (hg : o.guard = none) (t : TypeId) (parts : Array (Nat × Operand)) (ho : o.op = .build t parts) (cs : Array Value)
    (hb : P.built t (parts.map fun (i, x) => (i, a.eval x)).toList = some cs) (h : wpList P ops Q rest (a.put o.dst (.agg cs)) w) : wpList P ops Q (o :: rest) a w :=
  wpList_build hg t parts ho (by rw [hb]; rfl) (by rw [hb]; exact h)
theorem Kept.setRow {L : List Nat} {a w : World} (h : Kept L a w) {g : Nat} (hg : g ∈ L ∨ a.heap.size ≤ g) (cs : Array Value) : Kept L a (w.setRow g cs) :=
  h.trans (M := [g]) ⟨rfl, rfl, rfl, by simp [World.setRow], fun k _ hn => setRow_other w g k _ (by simpa using hn)⟩ (by simpa using hg)
theorem f_results_cell_tmp {P : Program} {fn : Func} {p q : Tmp} {ty : TypeId} (h : fn.results = #[.cell p ty, .tmp q]) (tmps : Array Value) (w : World) (g : Nat) (t : TypeId) (cs : Array Value) (fr : Nat × Nat) (d : TypeDesc)
    (hp : tmps.getD p undef = .pointer (some ⟨g, 0, none⟩)) (hg : w.heap[g]? = some (.cells cs t fr))
    (hu : P.underlying ty = some d) (hd : (match d with | .struct _ | .array _ _ => true | _ => false) = true) (hi : (P.info? ty).map (·.size) = some cs.size) (v : Value) (hq : tmps.getD q undef = v) :
    (results fn tmps).run P w = .ok (.tuple #[.agg cs, v]) w := by
  have hp' : tmps[p]?.getD undef = .pointer (some ⟨g, 0, none⟩) := by simpa using hp
  have hq' : tmps[q]?.getD undef = v := by simpa using hq
  simp [results, h, hp', hq', asAddr, run_loadVar_row w g t ty cs fr d hg hu hd hi]
theorem put2_heap {w : World} {g : Nat} {a b : Value} {t : TypeId} (h : w.heap[g]? = some (.cells #[a, b] t (0, 0))) (x y : Value) : ((w.setCell ⟨g, 0, none⟩ x).setCell ⟨g, 1, none⟩ y).heap[g]? = some (.cells #[x, y] t (0, 0)) := by
  rw [heap_setCell_same _ g 1 _ t _ (heap_setCell_same w g 0 _ t _ h)]; rfl
theorem put2_kept {w0 w : World} (k : Kept [] w0 w) (g : Nat) (hg : w0.heap.size ≤ g) (x y : Value) : Kept [] w0 ((w.setCell ⟨g, 0, none⟩ x).setCell ⟨g, 1, none⟩ y) := (k.setCell (Or.inr hg) x).setCell (Or.inr hg) y
theorem put2_kept' (w : World) (g : Nat) (x y : Value) : Kept [g] w ((w.setCell ⟨g, 0, none⟩ x).setCell ⟨g, 1, none⟩ y) := ((Kept.refl [g] w).setCell (Or.inl (by simp)) x).setCell (Or.inl (by simp)) y
theorem Tryz.size_frame : (Tryz.prog.info? 82).map (·.size) = some 2 := by kernel_rfl

set_option maxRecDepth 100000 in
set_option maxHeartbeats 1000000 in
theorem ru32_any (b : Nat) (gv : Value) (p : List Nat) (i e : Nat) (w : World) (h : ReAt w b gv p i e) :
    Calls Tryz.prog 136 #[.pointer (some ⟨b, 0, none⟩)] w fun r w' => r = .returned (.int .u32 ((rNum p i e 4).1 % 4294967296 : Nat)) ∧ ReAt w' b gv p (rNum p i e 4).2.1 (rNum p i e 4).2.2 ∧ Kept [b] w w' := by
  have HR := hide h
  have hlt := ru_lt p i e 4
  obtain ⟨x, hx⟩ : ∃ x, (rNum p i e 4).1 = x := ⟨_, rfl⟩
  rw [hx] at hlt ⊢
  have Hx := hide hx
  clear h hx
  go_enter Tryz.func136, Tryz.ntmps136
  go_wp2_with (go_at_call 148; go_must (refine (rnum_any b gv p i e 4 _ (unhide HR) (by omega)).mono ?_; rintro r w1 ⟨rfl, h1, h2⟩; rw [unhide Hx]; have H1 := hide h1; have H2 := hide h2; clear h1 h2))
  go_ret
  exact ⟨by simp, unhide H1, unhide H2⟩

set_option maxRecDepth 100000 in
set_option maxHeartbeats 1000000 in
theorem ru64_any (b : Nat) (gv : Value) (p : List Nat) (i e : Nat) (w : World) (h : ReAt w b gv p i e) :
    Calls Tryz.prog 137 #[.pointer (some ⟨b, 0, none⟩)] w fun r w' => r = .returned (.int .u64 ((rNum p i e 8).1 : Nat)) ∧ ReAt w' b gv p (rNum p i e 8).2.1 (rNum p i e 8).2.2 ∧ Kept [b] w w' := by
  have HR := hide h
  have hlt := ru_lt p i e 8
  obtain ⟨x, hx⟩ : ∃ x, (rNum p i e 8).1 = x := ⟨_, rfl⟩
  rw [hx] at hlt ⊢
  have Hx := hide hx
  clear h hx
  go_enter Tryz.func137, Tryz.ntmps137
  go_wp2_with (go_at_call 148; go_must (refine (rnum_any b gv p i e 8 _ (unhide HR) (by omega)).mono ?_; rintro r w1 ⟨rfl, h1, h2⟩; rw [unhide Hx]; have H1 := hide h1; have H2 := hide h2; clear h1 h2))
  go_ret
  exact ⟨by simp, unhide H1, unhide H2⟩

theorem rNum_at {p : List Nat} {i n m : Nat} (hm : i + n ≤ m) (hl : m ≤ p.length) : rNum (p.take m) i 0 n = (beL ((p.drop i).take n), i + n, 0) := by
  have e : ((p.take m).drop i).take n = (p.drop i).take n := by rw [List.drop_take, List.take_take, Nat.min_eq_left (by omega)]
  unfold rNum
  rw [if_neg (by simp), if_neg (by rw [List.length_take]; omega), e]
theorem Rd.take0 {w : World} {ao : Option Addr} {cap n : Nat} {p : List Nat} (h : Rd w (.slice ao p.length cap) p) (hn : n ≤ p.length) : Rd w (.slice ao n cap) (p.take n) := by
  obtain ⟨ao', len', cap', he, _, h2, ⟨h3, h3'⟩, h4, h5, h6⟩ := h
  cases he
  refine ⟨_, _, _, rfl, by rw [List.length_take]; omega, by omega, ⟨by omega, by omega⟩, h4, fun x hx => h5 x (List.mem_of_mem_take hx), fun hp => ?_⟩
  obtain ⟨b, off, rfl, hc⟩ := h6 (by omega)
  refine ⟨b, off, rfl, fun i hi => ?_⟩
  rw [hc i (by omega), List.getD_eq_getElem?_getD, List.getD_eq_getElem?_getD, List.getElem?_take, if_pos hi]
theorem Rd.drop17 {w : World} {b off cap : Nat} {p : List Nat} (h : Rd w (.slice (some ⟨b, off, none⟩) p.length cap) p) (n : Nat) (hn : 17 + n ≤ p.length) : Rd w (.slice (some ⟨b, off + 17, none⟩) n (cap - 17)) ((p.drop 17).take n) := by
  obtain ⟨ao', len', cap', he, _, h2, ⟨h3, h3'⟩, h4, h5, h6⟩ := h
  cases he
  refine ⟨_, _, _, rfl, by rw [List.length_take, List.length_drop]; omega, by omega, ⟨by omega, by omega⟩, fun h => by simp at h, fun x hx => h5 x (List.mem_of_mem_drop (List.mem_of_mem_take hx)), fun hp => ?_⟩
  obtain ⟨b', off', e, hc⟩ := h6 (by omega)
  cases e
  refine ⟨b, off + 17, rfl, fun i hi => ?_⟩
  have := hc (17 + i) (by omega)
  rw [Nat.add_assoc, this, List.getD_eq_getElem?_getD, List.getD_eq_getElem?_getD, List.getElem?_take, if_pos hi, List.getElem?_drop]
/-- What first tells. -/
def fstPl (p : List Nat) : Nat := (firstF p).elim 0 (·.1)
def fstPay (p : List Nat) : List Nat := (firstF p).elim [] (·.2)
theorem Tryz.lt_of_beL {p : List Nat} (h : ∀ x ∈ p, x < 256) (i n : Nat) (hn : n ≤ 8) : beL ((p.drop i).take n) < 256 ^ n := by
  have := (f_wide_beL (r := (p.drop i).take n) (fun y hy => h y (List.mem_of_mem_drop (List.mem_of_mem_take hy))) (by rw [List.length_take]; omega)).2
  exact Nat.lt_of_lt_of_le this (Nat.pow_le_pow_right (by omega) (by rw [List.length_take]; omega))
theorem firstF_short {p : List Nat} (h : p.length < 18) : firstF p = none := by
  unfold firstF
  rw [if_neg]
  rintro ⟨_, h1, _, h2, _⟩
  omega

theorem getD_drop0 (p : List Nat) (h : ∀ x ∈ p, x < 256) (hp : 0 < p.length) : beL ((p.drop 0).take 1) = p.getD 0 0 := by
  cases p with
  | nil => simp at hp
  | cons a r =>
    have := h a (by simp)
    simp [beL]
    omega

set_option maxRecDepth 100000 in
set_option maxHeartbeats 1000000 in
theorem clone_any (v : Value) (p : List Nat) (w : World) (h : Rd w v p) (hp : 0 < p.length) :
    Calls Tryz.prog 138 #[v] w fun e w' => ∃ v', e = .returned v' ∧ Rd w' v' p ∧ (∀ x ∈ blk v', w.heap.size ≤ x) ∧ Kept [] w w' := by
  have H := hide h
  obtain ⟨a1, n1, c1, rfl, hn1, hc1, ⟨hc2, hc3⟩, hc4, hc5, hc6⟩ := id h
  subst hn1
  obtain ⟨b, off, rfl, _⟩ := hc6 hp
  clear h hc6 hc5 hc4
  have HO := hide (World.ownsRow_made (base := w.heap.size) (e := 5) (size := 1) w #[] 0 (Nat.le_refl _) (by unfold maxLen; omega) (by simp))
  go_enter Tryz.func138, Tryz.ntmps138
  have hq : ∀ W : World, (binOp .eql 29 (.slice (some ⟨b, off, none⟩) p.length c1) (.slice none 0 0)).run Tryz.prog W = .ok (.bool false) W := by
    intro W
    simp only [binOp]
    simp [run_equal_slice_nil W 29 5 (some ⟨b, off, none⟩) p.length c1 Tryz.underlying29]
  go_wp2_with (at_builtin; refine wpList_appendAll rfl (.tmp 5) (.tmp 6) rfl rfl _ w.heap.size (.slice (some ⟨w.heap.size, 0, none⟩) 0 0) [] p (some ⟨b, off, none⟩) p.length c1 (unhide HO) ((unhide H).old ((Kept.refl [] w).alloc _) (by simp)) (by simp; omega) (by simp) rfl rfl ?_; intro ao1 cap1 w1 HO1 HG1 HA1; simp only [List.nil_append, List.length_nil, Nat.zero_add] at HO1 HA1; have HK1 := hide (((Kept.refl [] w).alloc _).grown (unhide HG1) (by intro k hk; right; simp [Value.ownBlock] at hk; omega)); clear HG1)
  go_ret
  refine ⟨_, rfl, rd_owns (unhide HO1) (unhide H).byte hc3, ?_, unhide HK1⟩
  intro x hx
  cases ao1 with
  | none => simp [blk] at hx
  | some a => simp [blk] at hx; subst hx; exact ((unhide HO1).lt a.block rfl).1

/-- What first's payload is: new memory. -/
def NewP (w w' : World) (v : Value) (bs : List Nat) : Prop := Rd w' v bs ∧ ∀ x ∈ blk v, w.heap.size ≤ x
theorem NewP.nil (w w' : World) : NewP w w' (.slice none 0 0) [] := ⟨Rd.nil _, by simp [blk]⟩

set_option maxRecDepth 100000 in
set_option maxHeartbeats 2000000 in
theorem first_any (v : Value) (p : List Nat) (w : World) (h : Rd w v p) :
    Calls Tryz.prog 110 #[v] w fun e w' => ∃ v', e = .returned (.tuple #[.agg #[.int .u64 (fstPl p), v'], .bool (firstF p).isSome]) ∧ NewP w w' v' (fstPay p) ∧ Kept [] w w' := by
  have H := hide h
  obtain ⟨a1, n1, c1, rfl, hn1, hc1, ⟨hc2, hc3⟩, _, _, hcell⟩ := id h
  subst hn1
  clear h
  by_cases h18 : p.length < 18
  · have h18' : (p.length : Int) < 18 := by omega
    have HF := hide (firstF_short h18)
    have e1 : fstPl p = 0 := by simp [fstPl, unhide HF]
    have e2 : fstPay p = [] := by simp [fstPay, unhide HF]
    rw [e1, e2, unhide HF]
    clear e1 e2 hcell
    go_enter Tryz.func110, Tryz.ntmps110
    go_wp2
    refine bodyPost_ret (v := .tuple #[.agg #[.int .u64 0, .slice none 0 0], .bool false]) ?_ rfl ⟨_, rfl, NewP.nil _ _, (Kept.refl [] w).alloc _⟩
    exact f_results_cell_tmp rfl _ _ w.heap.size _ #[.int .u64 0, .slice none 0 0] (0, 0) _ rfl (heap_alloc_new _ _) Tryz.underlying82 rfl Tryz.size_frame _ rfl
  have h18' : ¬ (p.length : Int) < 18 := by omega
  obtain ⟨bb, off, rfl, hcl⟩ := hcell (by omega)
  have HCL := hide hcl
  clear hcell hcl
  have hb := (unhide H).byte
  have t17 := (unhide H).take0 (n := 17) (by omega)
  have HT := hide t17
  have Hn1 := hide (rNum_at (p := p) (i := 0) (n := 1) (m := 17) (by omega) (by omega))
  have Hn4 := hide (rNum_at (p := p) (i := 1) (n := 4) (m := 17) (by omega) (by omega))
  have Hn8 := hide (rNum_at (p := p) (i := 5) (n := 8) (m := 17) (by omega) (by omega))
  have Hns := hide (rNum_at (p := p) (i := 13) (n := 4) (m := 17) (by omega) (by omega))
  have ln := Tryz.lt_of_beL hb 1 4 (by omega)
  have lpl := Tryz.lt_of_beL hb 5 8 (by omega)
  have ls := Tryz.lt_of_beL hb 13 4 (by omega)
  rw [getD_drop0 p hb (by omega)] at Hn1
  have HFF := hide (rfl : firstF p = firstF p)
  unfold Hid at HFF
  conv at HFF => rhs; unfold firstF
  have lb : p.getD 0 0 < 256 := hb _ (by rw [List.getD_eq_getElem?_getD, List.getElem?_eq_getElem (show 0 < p.length by omega)]; exact List.getElem_mem _)
  obtain ⟨b0, hb0⟩ : ∃ x, p.getD 0 0 = x := ⟨_, rfl⟩
  obtain ⟨n, hn⟩ : ∃ x, beL ((p.drop 1).take 4) = x := ⟨_, rfl⟩
  obtain ⟨pl, hpl⟩ : ∃ x, beL ((p.drop 5).take 8) = x := ⟨_, rfl⟩
  obtain ⟨s, hs⟩ : ∃ x, beL ((p.drop 13).take 4) = x := ⟨_, rfl⟩
  rw [hn] at Hn4 HFF ln
  rw [hpl] at Hn8 HFF lpl
  rw [hs] at Hns HFF ls
  rw [hb0] at Hn1 HFF lb
  have HF := hide HFF
  clear HFF t17 hb0 hn hpl hs hb
  obtain ⟨X, hX⟩ : ∃ x, fstPl p = x := ⟨_, rfl⟩
  obtain ⟨Y, hY⟩ : ∃ x, fstPay p = x := ⟨_, rfl⟩
  obtain ⟨Z, hZ⟩ : ∃ x, (firstF p).isSome = x := ⟨_, rfl⟩
  rw [hX, hY, hZ]
  have HX := hide hX
  have HY := hide hY
  have HZ := hide hZ
  clear hX hY hZ
  go_enter Tryz.func110, Tryz.ntmps110
  have HZ0 := hide (heap_alloc_new w (.cells #[.int .u64 0, .slice none 0 0] 82))
  have HK0 := hide ((Kept.refl [] w).alloc (.cells #[.int .u64 0, .slice none 0 0] 82))
  go_wp2_with fail
  obtain ⟨W, hW⟩ : ∃ W, w.alloc (.cells #[.int .u64 0, .slice none 0 0] 82) = W := ⟨_, rfl⟩
  rw [hW] at HK0 HZ0 ⊢
  clear hW
  refine Calls.mono (newReader_any _ (p.take 17) W ((unhide HT).old (unhide HK0) (by simp))) ?_
  rintro e w1 ⟨b, gv, rfl, hb1, r1, hg1, k1⟩
  have HR1 := hide r1
  have HK1 := hide k1
  have Hb := hide hb1
  clear r1 k1 hg1 hb1
  go_wp2_with fail
  refine Calls.mono (ru8_any b gv (p.take 17) 0 0 w1 (unhide HR1)) ?_
  rintro e w2 ⟨rfl, r2, k2⟩
  rw [unhide Hn1] at r2 ⊢
  rw [show (b0, 0 + 1, 0).1 % 256 = b0 from Nat.mod_eq_of_lt lb]
  have HR2 := hide r2
  have HK2 := hide (((unhide HK1).trans k2 (by have := unhide Hb; simp; omega)))
  clear r2 k2 HR1 HK1
  go_wp2_with fail
  refine Calls.mono (ru32_any b gv (p.take 17) 1 0 w2 (unhide HR2)) ?_
  rintro e w3 ⟨rfl, r3, k3⟩
  rw [unhide Hn4] at r3 ⊢
  rw [show (n, 1 + 4, 0).1 % 4294967296 = n from Nat.mod_eq_of_lt ln]
  have HR3 := hide r3
  have HK3 := hide (((unhide HK2).trans k3 (by have := unhide Hb; simp; omega)))
  clear r3 k3 HR2 HK2
  go_wp2_with fail
  refine Calls.mono (ru64_any b gv (p.take 17) 5 0 w3 (unhide HR3)) ?_
  rintro e w4 ⟨rfl, r4, k4⟩
  rw [unhide Hn8] at r4 ⊢
  have HR4 := hide r4
  have HK4 := hide (((unhide HK3).trans k4 (by have := unhide Hb; simp; omega)))
  clear r4 k4 HR3 HK3
  go_wp2_with fail
  refine Calls.mono (ru32_any b gv (p.take 17) 13 0 w4 (unhide HR4)) ?_
  rintro e w5 ⟨rfl, r5, k5⟩
  rw [unhide Hns]
  rw [show (s, 13 + 4, 0).1 % 4294967296 = s from Nat.mod_eq_of_lt ls]
  have HK5 := hide (((unhide HK4).trans k5 (by have := unhide Hb; simp; omega)))
  clear r5 k5 HR4 HK4
  simp only
  have HZ5 := hide ((unhide HK5).heap (unhide HZ0) (by simp))
  have HKW := hide ((unhide HK0).trans (unhide HK5) (by simp))
  have HNO := hide (fun (h : firstF p = none) => by
    rw [← unhide HX, ← unhide HY, ← unhide HZ]
    exact ⟨by simp [fstPl, h], by simp [fstPay, h], by rw [h]; rfl⟩ : firstF p = none → X = 0 ∧ Y = [] ∧ Z = false)
  have HQ0 := hide (put2_heap (unhide HZ5) (.int .u64 0) (.slice none 0 0))
  have HKQ := hide (put2_kept (unhide HKW) w.heap.size (Nat.le_refl _) (.int .u64 0) (.slice none 0 0))
  have d0 : w5.cell? ⟨w.heap.size, 0, none⟩ = some (.int .u64 0) := by rw [cell_of_row _ _ _ _ _ _ (unhide HZ5)]; rfl
  have d1 : w5.cell? ⟨w.heap.size, 1, none⟩ = some (.slice none 0 0) := by rw [cell_of_row _ _ _ _ _ _ (unhide HZ5)]; rfl
  have f0 : w5.frozen? ⟨w.heap.size, 0, none⟩ = false := frozen_of_row _ _ _ _ _ (unhide HZ5)
  have f1 : w5.frozen? ⟨w.heap.size, 1, none⟩ = false := frozen_of_row _ _ _ _ _ (unhide HZ5)
  by_cases hA0 : b0 = 245
  · subst hA0
    by_cases hA1 : n = 0
    · have HFn := hide (unhide HNO (by rw [unhide HF, if_neg]; rintro ⟨_, h, _⟩; omega))
      subst hA1
      go_wp2
      refine bodyPost_ret (v := .tuple #[.agg #[.int .u64 0, .slice none 0 0], .bool false]) ?_ rfl ⟨_, by rw [(unhide HFn).1, (unhide HFn).2.2]; rfl, by rw [(unhide HFn).2.1]; exact NewP.nil _ _, unhide HKQ⟩
      exact f_results_cell_tmp rfl _ _ w.heap.size _ #[.int .u64 0, .slice none 0 0] (0, 0) _ rfl (unhide HQ0) Tryz.underlying82 rfl Tryz.size_frame _ rfl
    have hA1' : ((n : Int) == 0) = false := by rw [beq_eq_false_iff_ne]; omega
    by_cases hA2 : 65535 < n
    · have HFn := hide (unhide HNO (by rw [unhide HF, if_neg]; rintro ⟨_, _, h, _⟩; omega))
      have hA2' : (65535 : Int) < n := by omega
      go_wp2
      refine bodyPost_ret (v := .tuple #[.agg #[.int .u64 0, .slice none 0 0], .bool false]) ?_ rfl ⟨_, by rw [(unhide HFn).1, (unhide HFn).2.2]; rfl, by rw [(unhide HFn).2.1]; exact NewP.nil _ _, unhide HKQ⟩
      exact f_results_cell_tmp rfl _ _ w.heap.size _ #[.int .u64 0, .slice none 0 0] (0, 0) _ rfl (unhide HQ0) Tryz.underlying82 rfl Tryz.size_frame _ rfl
    have hA2' : ¬ (65535 : Int) < n := by omega
    by_cases hB : 17 + n < p.length
    · have hB' : (17 : Int) + n < p.length := by omega
      have hB2 : ¬ (p.length : Int) ≤ 17 + n := by omega
      have cE := (unhide HKW).cell (unhide HCL (17 + n) hB) (by simp)
      obtain ⟨pe, hpe⟩ : ∃ x, p.getD (17 + n) 0 = x := ⟨_, rfl⟩
      rw [hpe] at cE HF
      clear hpe
      by_cases hE : pe = 95
      · subst hE
        have HPD := hide (((unhide H).drop17 n (by omega)).old (unhide HKW) (by simp))
        go_wp2_with fail
        refine Calls.mono (sumOf_any pl _ ((p.drop 17).take n) w5 (unhide HPD) lpl (by rw [List.length_take]; omega)) ?_
        rintro e w6 ⟨rfl, k6⟩
        have HZ6 := hide (k6.heap (unhide HZ5) (by simp))
        have HKW6 := hide ((unhide HKW).trans k6 (by simp))
        have HPD6 := hide ((unhide HPD).old k6 (by simp))
        have HQ6 := hide (put2_heap (unhide HZ6) (.int .u64 0) (.slice none 0 0))
        have HKQ6 := hide (put2_kept (unhide HKW6) w.heap.size (Nat.le_refl _) (.int .u64 0) (.slice none 0 0))
        clear k6 d0 d1 f0 f1
        have d0 : w6.cell? ⟨w.heap.size, 0, none⟩ = some (.int .u64 0) := by rw [cell_of_row _ _ _ _ _ _ (unhide HZ6)]; rfl
        have d1 : w6.cell? ⟨w.heap.size, 1, none⟩ = some (.slice none 0 0) := by rw [cell_of_row _ _ _ _ _ _ (unhide HZ6)]; rfl
        have f0 : w6.frozen? ⟨w.heap.size, 0, none⟩ = false := frozen_of_row _ _ _ _ _ (unhide HZ6)
        have f1 : w6.frozen? ⟨w.heap.size, 1, none⟩ = false := frozen_of_row _ _ _ _ _ (unhide HZ6)
        obtain ⟨q, hq⟩ : ∃ q, (p.drop 17).take n = q := ⟨_, rfl⟩
        have hql : q.length = n := by rw [← hq, List.length_take, List.length_drop]; omega
        rw [hq] at HPD6 HF ⊢
        clear hq
        obtain ⟨t, ht⟩ : ∃ t, sumF pl q = t := ⟨_, rfl⟩
        rw [ht] at HF ⊢
        clear ht
        by_cases hS : t = s
        · subst hS
          have HFs := hide (by rw [unhide HF, if_pos (by simp; omega)] : firstF p = some (pl, q))
          have HV := hide (by
            rw [← unhide HX, ← unhide HY, ← unhide HZ]
            exact ⟨by simp [fstPl, unhide HFs], by simp [fstPay, unhide HFs], by rw [unhide HFs]; rfl⟩ : X = pl ∧ Y = q ∧ Z = true)
          go_wp2_with fail
          refine Calls.mono (clone_any _ q w6 (unhide HPD6) (by omega)) ?_
          rintro e w7 ⟨v7, rfl, r7, b7, k7⟩
          obtain ⟨a7, n7, c7, hv7, _⟩ := id r7
          have HZ7 := hide (k7.heap (unhide HZ6) (by simp))
          have HQ7 := hide (put2_heap (unhide HZ7) (.int .u64 pl) v7)
          have HK7 := hide ((unhide HKW6).trans k7 (by simp))
          have hlt6 : w.heap.size < w6.heap.size := lt_of_block (unhide HZ6)
          have HN7 := hide (⟨r7.kept (put2_kept' w7 w.heap.size (.int .u64 pl) v7) (by intro x hx; have := b7 x hx; simp; omega), fun x hx => by have := b7 x hx; omega⟩ : NewP w _ v7 q)
          have HKQ7 := hide (put2_kept (unhide HK7) w.heap.size (Nat.le_refl _) (.int .u64 pl) v7)
          clear k7 d0 d1 f0 f1 r7 b7
          subst hv7
          have d0 : w7.cell? ⟨w.heap.size, 0, none⟩ = some (.int .u64 0) := by rw [cell_of_row _ _ _ _ _ _ (unhide HZ7)]; rfl
          have d1 : w7.cell? ⟨w.heap.size, 1, none⟩ = some (.slice none 0 0) := by rw [cell_of_row _ _ _ _ _ _ (unhide HZ7)]; rfl
          have f0 : w7.frozen? ⟨w.heap.size, 0, none⟩ = false := frozen_of_row _ _ _ _ _ (unhide HZ7)
          have f1 : w7.frozen? ⟨w.heap.size, 1, none⟩ = false := frozen_of_row _ _ _ _ _ (unhide HZ7)
          go_wp2
          refine bodyPost_ret (v := .tuple #[.agg #[.int .u64 pl, .slice a7 n7 c7], .bool true]) ?_ rfl ⟨.slice a7 n7 c7, by rw [(unhide HV).1, (unhide HV).2.2], by rw [(unhide HV).2.1]; exact unhide HN7, unhide HKQ7⟩
          exact f_results_cell_tmp rfl _ _ w.heap.size _ #[.int .u64 pl, .slice a7 n7 c7] (0, 0) _ rfl (unhide HQ7) Tryz.underlying82 rfl Tryz.size_frame _ rfl
        · have hS' : ((t : Int) != s) = true := by rw [bne_iff_ne]; omega
          have HFn := hide (unhide HNO (by rw [unhide HF, if_neg]; rintro ⟨_, _, _, _, _, h⟩; exact hS h))
          go_wp2
          refine bodyPost_ret (v := .tuple #[.agg #[.int .u64 0, .slice none 0 0], .bool false]) ?_ rfl ⟨_, by rw [(unhide HFn).1, (unhide HFn).2.2]; rfl, by rw [(unhide HFn).2.1]; exact NewP.nil _ _, unhide HKQ6⟩
          exact f_results_cell_tmp rfl _ _ w.heap.size _ #[.int .u64 0, .slice none 0 0] (0, 0) _ rfl (unhide HQ6) Tryz.underlying82 rfl Tryz.size_frame _ rfl
      · have hE' : ((pe : Int) != 95) = true := by rw [bne_iff_ne]; omega
        have HFn := hide (unhide HNO (by rw [unhide HF, if_neg]; rintro ⟨_, _, _, _, h, _⟩; exact hE h))
        go_wp2
        refine bodyPost_ret (v := .tuple #[.agg #[.int .u64 0, .slice none 0 0], .bool false]) ?_ rfl ⟨_, by rw [(unhide HFn).1, (unhide HFn).2.2]; rfl, by rw [(unhide HFn).2.1]; exact NewP.nil _ _, unhide HKQ⟩
        exact f_results_cell_tmp rfl _ _ w.heap.size _ #[.int .u64 0, .slice none 0 0] (0, 0) _ rfl (unhide HQ0) Tryz.underlying82 rfl Tryz.size_frame _ rfl
    · have hB' : (p.length : Int) ≤ 17 + n := by omega
      have HFn := hide (unhide HNO (by rw [unhide HF, if_neg]; rintro ⟨_, _, _, h, _⟩; exact hB h))
      go_wp2
      refine bodyPost_ret (v := .tuple #[.agg #[.int .u64 0, .slice none 0 0], .bool false]) ?_ rfl ⟨_, by rw [(unhide HFn).1, (unhide HFn).2.2]; rfl, by rw [(unhide HFn).2.1]; exact NewP.nil _ _, unhide HKQ⟩
      exact f_results_cell_tmp rfl _ _ w.heap.size _ #[.int .u64 0, .slice none 0 0] (0, 0) _ rfl (unhide HQ0) Tryz.underlying82 rfl Tryz.size_frame _ rfl
  · have hA0' : ((b0 : Int) != 245) = true := by rw [bne_iff_ne]; omega
    have HFn := hide (unhide HNO (by rw [unhide HF, if_neg]; rintro ⟨h, _⟩; exact hA0 h))
    go_wp2
    refine bodyPost_ret (v := .tuple #[.agg #[.int .u64 0, .slice none 0 0], .bool false]) ?_ rfl ⟨_, by rw [(unhide HFn).1, (unhide HFn).2.2]; rfl, by rw [(unhide HFn).2.1]; exact NewP.nil _ _, unhide HKQ⟩
    exact f_results_cell_tmp rfl _ _ w.heap.size _ #[.int .u64 0, .slice none 0 0] (0, 0) _ rfl (unhide HQ0) Tryz.underlying82 rfl Tryz.size_frame _ rfl
end Go.Proofs.YtckkalmhekfnhabGreatDoor
namespace Go.Proofs.YtckkalmhekfnhabGreatDoor
open Go.RowKit Go.BigFrame
set_option linter.unusedVariables false
set_option linter.unusedSimpArgs false

theorem results_cell_tmp2 {P : Program} {fn : Func} {p q r : Tmp} {ty : TypeId} (h : fn.results = #[.cell p ty, .tmp q, .tmp r]) (tmps : Array Value) (w : World) (g : Nat) (t : TypeId) (cs : Array Value) (fr : Nat × Nat) (d : TypeDesc)
    (hp : tmps.getD p undef = .pointer (some ⟨g, 0, none⟩)) (hg : w.heap[g]? = some (.cells cs t fr))
    (hu : P.underlying ty = some d) (hd : (match d with | .struct _ | .array _ _ => true | _ => false) = true) (hi : (P.info? ty).map (·.size) = some cs.size) (v u : Value) (hq : tmps.getD q undef = v) (hr : tmps.getD r undef = u) :
    (results fn tmps).run P w = .ok (.tuple #[.agg cs, v, u]) w := by
  have hp' : tmps[p]?.getD undef = .pointer (some ⟨g, 0, none⟩) := by simpa using hp
  have hq' : tmps[q]?.getD undef = v := by simpa using hq
  have hr' : tmps[r]?.getD undef = u := by simpa using hr
  simp [results, h, hp', hq', hr', asAddr, run_loadVar_row w g t ty cs fr d hg hu hd hi]

/-- What stands in p at the place z: place, payload, the place behind it, the kind. -/
structure NxR where
  pl : Nat
  pay : List Nat
  next : Int
  kind : Nat
def nextF (p : List Nat) (z : Int) : NxR :=
  if z = p.length then ⟨0, [], z, 0⟩ else if z < 0 ∨ (p.length : Int) < z then ⟨0, [], z, 2⟩ else
  match firstF (p.drop z.toNat) with
  | none => ⟨0, [], z, 2⟩
  | some x => ⟨x.1, x.2, z + 18 + x.2.length, 1⟩
theorem Rd.dropN {w : World} {b off cap : Nat} {p : List Nat} (h : Rd w (.slice (some ⟨b, off, none⟩) p.length cap) p) (n : Nat) (hn : n ≤ p.length) : Rd w (.slice (some ⟨b, off + n, none⟩) (p.length - n) (cap - n)) (p.drop n) := by
  obtain ⟨ao', len', cap', he, _, h2, ⟨h3, h3'⟩, h4, h5, h6⟩ := h
  cases he
  refine ⟨_, _, _, rfl, by rw [List.length_drop], by omega, ⟨by omega, by omega⟩, fun h => by simp at h, fun x hx => h5 x (List.mem_of_mem_drop hx), fun hp => ?_⟩
  obtain ⟨b', off', e, hc⟩ := h6 (by omega)
  cases e
  refine ⟨b, off + n, rfl, fun i hi => ?_⟩
  have := hc (n + i) (by omega)
  rw [Nat.add_assoc, this, List.getD_eq_getElem?_getD, List.getD_eq_getElem?_getD, List.getElem?_drop]

set_option maxRecDepth 100000 in
set_option maxHeartbeats 2000000 in
theorem next_any (v : Value) (p : List Nat) (z : Int) (w : World) (h : Rd w v p) (hz : -9223372036854775808 ≤ z ∧ z ≤ 9223372036854775807) :
    Calls Tryz.prog 69 #[v, .int .i64 z] w fun e w' => ∃ v', e = .returned (.tuple #[.agg #[.int .u64 (nextF p z).pl, v'], .int .i64 (nextF p z).next, .int .i64 (nextF p z).kind]) ∧ NewP w w' v' (nextF p z).pay ∧ Kept [] w w' := by
  have H := hide h
  obtain ⟨a1, n1, c1, rfl, hn1, hc1, ⟨hc2, hc3⟩, _, _, hcell⟩ := id h
  subst hn1
  clear h
  have HZ0 := hide (heap_alloc_new w (.cells #[.int .u64 0, .slice none 0 0] 82))
  have HK0 := hide ((Kept.refl [] w).alloc (.cells #[.int .u64 0, .slice none 0 0] 82))
  have HQ0 := hide (put2_heap (unhide HZ0) (.int .u64 0) (.slice none 0 0))
  have HKQ := hide (put2_kept (unhide HK0) w.heap.size (Nat.le_refl _) (.int .u64 0) (.slice none 0 0))
  by_cases h1 : z = p.length
  · have hN : nextF p z = ⟨0, [], z, 0⟩ := by unfold nextF; rw [if_pos h1]
    rw [hN]
    clear hN hcell
    subst h1
    go_enter Tryz.func69, Tryz.ntmps69
    go_wp2
    refine bodyPost_ret (v := .tuple #[.agg #[.int .u64 0, .slice none 0 0], .int .i64 p.length, .int .i64 0]) ?_ rfl ⟨_, rfl, NewP.nil _ _, unhide HK0⟩
    exact results_cell_tmp2 rfl _ _ w.heap.size _ #[.int .u64 0, .slice none 0 0] (0, 0) _ rfl (unhide HZ0) Tryz.underlying82 rfl Tryz.size_frame _ _ rfl rfl
  have h1' : (z == (p.length : Int)) = false := by rw [beq_eq_false_iff_ne]; exact h1
  by_cases h2 : z < 0
  · have hN : nextF p z = ⟨0, [], z, 2⟩ := by unfold nextF; rw [if_neg h1, if_pos (Or.inl h2)]
    rw [hN]
    clear hN hcell
    go_enter Tryz.func69, Tryz.ntmps69
    go_wp2
    refine bodyPost_ret (v := .tuple #[.agg #[.int .u64 0, .slice none 0 0], .int .i64 z, .int .i64 2]) ?_ rfl ⟨_, rfl, NewP.nil _ _, unhide HK0⟩
    exact results_cell_tmp2 rfl _ _ w.heap.size _ #[.int .u64 0, .slice none 0 0] (0, 0) _ rfl (unhide HZ0) Tryz.underlying82 rfl Tryz.size_frame _ _ rfl rfl
  by_cases h3 : (p.length : Int) < z
  · have hN : nextF p z = ⟨0, [], z, 2⟩ := by unfold nextF; rw [if_neg h1, if_pos (Or.inr h3)]
    rw [hN]
    clear hN hcell
    go_enter Tryz.func69, Tryz.ntmps69
    go_wp2
    refine bodyPost_ret (v := .tuple #[.agg #[.int .u64 0, .slice none 0 0], .int .i64 z, .int .i64 2]) ?_ rfl ⟨_, rfl, NewP.nil _ _, unhide HK0⟩
    exact results_cell_tmp2 rfl _ _ w.heap.size _ #[.int .u64 0, .slice none 0 0] (0, 0) _ rfl (unhide HZ0) Tryz.underlying82 rfl Tryz.size_frame _ _ rfl rfl
  obtain ⟨n, rfl⟩ : ∃ n : Nat, z = n := ⟨z.toNat, by omega⟩
  have hn : n < p.length := by omega
  obtain ⟨bb, off, rfl, hcl⟩ := hcell (by omega)
  clear hcell hcl
  have HD := hide ((unhide H).dropN n (by omega))
  have HNF := hide (by unfold nextF; rw [if_neg h1, if_neg (by omega), Int.toNat_natCast] : nextF p n = match firstF (p.drop n) with
    | none => ⟨0, [], n, 2⟩
    | some x => ⟨x.1, x.2, (n : Int) + 18 + x.2.length, 1⟩)
  cases hf : firstF (p.drop n) with
  | none =>
    rw [hf] at HNF
    rw [unhide HNF]
    have HF := hide hf
    clear hf
    have h3' : ¬ (p.length : Int) < n := by omega
    go_enter Tryz.func69, Tryz.ntmps69
    go_wp2_with fail
    refine Calls.mono (first_any _ (p.drop n) _ ((unhide HD).old (unhide HK0) (by simp))) ?_
    rintro e w1 ⟨v1, rfl, n1, k1⟩
    rw [unhide HF]
    have HZ1 := hide (k1.heap (unhide HZ0) (by simp))
    have HK1 := hide ((unhide HK0).trans k1 (by simp))
    obtain ⟨a2, n2, c2, hv1, _⟩ := id n1.1
    subst hv1
    clear k1 n1
    have k2 := (Kept.refl [] w1).alloc (.cells #[.int .u64 (fstPl (p.drop n) : Int), .slice a2 n2 c2] 82)
    have HZ2 := hide (k2.heap (unhide HZ1) (by simp))
    have HK2 := hide ((unhide HK1).alloc (.cells #[.int .u64 (fstPl (p.drop n) : Int), .slice a2 n2 c2] 82))
    have d0 : (w1.alloc (.cells #[.int .u64 (fstPl (p.drop n) : Int), .slice a2 n2 c2] 82)).cell? ⟨w.heap.size, 0, none⟩ = some (.int .u64 0) := by rw [cell_of_row _ _ _ _ _ _ (unhide HZ2)]; rfl
    have d1 : (w1.alloc (.cells #[.int .u64 (fstPl (p.drop n) : Int), .slice a2 n2 c2] 82)).cell? ⟨w.heap.size, 1, none⟩ = some (.slice none 0 0) := by rw [cell_of_row _ _ _ _ _ _ (unhide HZ2)]; rfl
    have f0 : (w1.alloc (.cells #[.int .u64 (fstPl (p.drop n) : Int), .slice a2 n2 c2] 82)).frozen? ⟨w.heap.size, 0, none⟩ = false := frozen_of_row _ _ _ _ _ (unhide HZ2)
    have f1 : (w1.alloc (.cells #[.int .u64 (fstPl (p.drop n) : Int), .slice a2 n2 c2] 82)).frozen? ⟨w.heap.size, 1, none⟩ = false := frozen_of_row _ _ _ _ _ (unhide HZ2)
    clear k2
    go_wp2
    refine bodyPost_ret (v := .tuple #[.agg #[.int .u64 0, .slice none 0 0], .int .i64 n, .int .i64 2]) ?_ rfl ⟨_, rfl, NewP.nil _ _, put2_kept (unhide HK2) w.heap.size (Nat.le_refl _) (.int .u64 0) (.slice none 0 0)⟩
    exact results_cell_tmp2 rfl _ _ w.heap.size _ #[.int .u64 0, .slice none 0 0] (0, 0) _ rfl (put2_heap (unhide HZ2) (.int .u64 0) (.slice none 0 0)) Tryz.underlying82 rfl Tryz.size_frame _ _ rfl rfl
  | some x =>
    obtain ⟨pl, pay⟩ := x
    rw [hf] at HNF
    rw [unhide HNF]
    have hfm := firstF_form hf (fun x hx => (unhide H).byte x (List.mem_of_mem_drop hx))
    have hlen : n + 18 + pay.length ≤ p.length := by
      have := congrArg List.length hfm.2.2.2.2
      rw [List.length_append, frB_len, List.length_drop] at this
      omega
    have HF := hide hf
    have e1 : fstPl (p.drop n) = pl := by simp [fstPl, hf]
    have e2 : fstPay (p.drop n) = pay := by simp [fstPay, hf]
    clear hf
    have h3' : ¬ (p.length : Int) < n := by omega
    go_enter Tryz.func69, Tryz.ntmps69
    go_wp2_with fail
    refine Calls.mono (first_any _ (p.drop n) _ ((unhide HD).old (unhide HK0) (by simp))) ?_
    rintro e w1 ⟨v1, rfl, n1, k1⟩
    rw [e2] at n1
    rw [unhide HF, e1]
    have HZ1 := hide (k1.heap (unhide HZ0) (by simp))
    have HK1 := hide ((unhide HK0).trans k1 (by simp))
    have HN1 := hide n1
    obtain ⟨a2, n2, c2, hv1, hn2, _⟩ := id n1.1
    subst hv1
    subst hn2
    clear k1 n1 e1 e2 hfm
    have k2 := (Kept.refl [] w1).alloc (.cells #[.int .u64 (pl : Int), .slice a2 pay.length c2] 82)
    have HZ2 := hide (k2.heap (unhide HZ1) (by simp))
    have HK2 := hide ((unhide HK1).alloc (.cells #[.int .u64 (pl : Int), .slice a2 pay.length c2] 82))
    have d0 : (w1.alloc (.cells #[.int .u64 (pl : Int), .slice a2 pay.length c2] 82)).cell? ⟨w.heap.size, 0, none⟩ = some (.int .u64 0) := by rw [cell_of_row _ _ _ _ _ _ (unhide HZ2)]; rfl
    have d1 : (w1.alloc (.cells #[.int .u64 (pl : Int), .slice a2 pay.length c2] 82)).cell? ⟨w.heap.size, 1, none⟩ = some (.slice none 0 0) := by rw [cell_of_row _ _ _ _ _ _ (unhide HZ2)]; rfl
    have f0 : (w1.alloc (.cells #[.int .u64 (pl : Int), .slice a2 pay.length c2] 82)).frozen? ⟨w.heap.size, 0, none⟩ = false := frozen_of_row _ _ _ _ _ (unhide HZ2)
    have f1 : (w1.alloc (.cells #[.int .u64 (pl : Int), .slice a2 pay.length c2] 82)).frozen? ⟨w.heap.size, 1, none⟩ = false := frozen_of_row _ _ _ _ _ (unhide HZ2)
    clear k2
    go_wp2
    obtain ⟨W, hW⟩ : ∃ W, w1.alloc (.cells #[.int .u64 (pl : Int), .slice a2 pay.length c2] 82) = W := ⟨_, rfl⟩
    have HC := hide (heap_alloc_new w1 (.cells #[.int .u64 (pl : Int), .slice a2 pay.length c2] 82))
    have hlt1 : w.heap.size < w1.heap.size := lt_of_block (unhide HZ1)
    have HNW := hide ((unhide HN1).1.old ((Kept.refl [] w1).alloc (.cells #[.int .u64 (pl : Int), .slice a2 pay.length c2] 82)) (by simp))
    rw [hW] at HC d0 d1 f0 f1 HZ2 HK2 HNW ⊢
    clear hW
    have e0 : W.cell? ⟨w1.heap.size, 0, none⟩ = some (.int .u64 pl) := by rw [cell_of_row _ _ _ _ _ _ (unhide HC)]; rfl
    have e1 : W.cell? ⟨w1.heap.size, 1, none⟩ = some (.slice a2 pay.length c2) := by rw [cell_of_row _ _ _ _ _ _ (unhide HC)]; rfl
    have hne : w.heap.size ≠ w1.heap.size := by omega
    have HB1 := hide (fun x hx => by have h9 := (unhide HN1).2 x hx; have h8 : (w.alloc (.cells #[.int .u64 0, .slice none 0 0] 82)).heap.size = w.heap.size + 1 := by simp
                                     omega : ∀ x ∈ blk (.slice a2 pay.length c2), w.heap.size + 1 ≤ x)
    have HRQ := hide ((unhide HNW).kept (put2_kept' W w.heap.size (.int .u64 pl) (.slice a2 pay.length c2)) (by
      intro x hx hm
      have h9 := unhide HB1 x hx
      have h8 : x = w.heap.size := by simpa using hm
      omega))
    go_region_held3 (fun w' => w'.cell? ⟨w1.heap.size, 0, none⟩ = some (.int .u64 pl) ∧ w'.cell? ⟨w1.heap.size, 1, none⟩ = some (.slice a2 pay.length c2)) (go_keep) (fail)
    have hww : IntKind.i64.wrap (IntKind.i64.wrap ((n : Int) + 18) + pay.length) = (n : Int) + 18 + pay.length := by rw [IntKind.wrap_i64, IntKind.wrap_i64]; omega
    all_goals go_wp2
    all_goals
      refine bodyPost_ret (v := .tuple #[.agg #[.int .u64 pl, .slice a2 pay.length c2], .int .i64 ((n : Int) + 18 + pay.length), .int .i64 1]) ?_ rfl ⟨.slice a2 pay.length c2, rfl, ⟨unhide HRQ, fun x hx => by have h9 := unhide HB1 x hx; omega⟩, (put2_kept (unhide HK2) w.heap.size (Nat.le_refl _) (.int .u64 pl) (.slice a2 pay.length c2)).drew⟩
      refine results_cell_tmp2 rfl _ _ w.heap.size 82 #[.int .u64 pl, .slice a2 pay.length c2] (0, 0) _ rfl (by exact put2_heap (unhide HZ2) (.int .u64 pl) (.slice a2 pay.length c2)) Tryz.underlying82 rfl Tryz.size_frame _ _ ?_ rfl
      simp [hww]
end Go.Proofs.YtckkalmhekfnhabGreatDoor
namespace Go.Proofs.YtckkalmhekfnhabGreatDoor
open Go.RowKit Go.BigFrame
set_option linter.unusedVariables false
set_option linter.unusedSimpArgs false

theorem nextF_frB (pl : Nat) (pay t : List Nat) (hpl : pl < 18446744073709551616) (h1 : 1 ≤ pay.length) (hl : pay.length ≤ 65535) (hb : ∀ x ∈ pay, x < 256) : nextF (frB pl pay ++ t) 0 = ⟨pl, pay, 18 + (pay.length : Int), 1⟩ := by
  have h := firstF_some pl pay t hpl h1 hl hb
  have hlen : (frB pl pay ++ t).length = pay.length + 18 + t.length := by rw [List.length_append, frB_len]
  unfold nextF
  rw [if_neg (by rw [hlen]; omega), if_neg (by rw [hlen]; omega), Int.toNat_zero, List.drop_zero, h]
  simp

theorem next79 : nextF (frB 7 [9]) 0 = ⟨7, [9], 19, 1⟩ := by
  have := nextF_frB 7 [9] [] (by decide) (by decide) (by decide) (by decide)
  rw [List.append_nil] at this
  exact this

end Go.Proofs.YtckkalmhekfnhabGreatDoor
namespace Go.Proofs.YtckkalmhekfnhabGreatDoor
open Go.RowKit Go.BigFrame
set_option linter.unusedVariables false
set_option linter.unusedSimpArgs false

theorem nextF_cases (p : List Nat) (z : Int) (hb : ∀ x ∈ p, x < 256) :
    (z = p.length ∧ nextF p z = ⟨0, [], z, 0⟩) ∨ (z ≠ p.length ∧ nextF p z = ⟨0, [], z, 2⟩) ∨
    ∃ (n pl : Nat) (pay : List Nat), z = n ∧ nextF p z = ⟨pl, pay, ((n + 18 + pay.length : Nat) : Int), 1⟩ ∧ pl < 18446744073709551616 ∧ 1 ≤ pay.length ∧ pay.length ≤ 65535 ∧ (∀ x ∈ pay, x < 256) ∧ n + 18 + pay.length ≤ p.length ∧ (p.drop n).take (18 + pay.length) = frB pl pay ∧ firstF (p.drop n) = some (pl, pay) := by
  by_cases h1 : z = p.length
  · exact Or.inl ⟨h1, by unfold nextF; rw [if_pos h1]⟩
  refine Or.inr ?_
  by_cases h2 : z < 0 ∨ (p.length : Int) < z
  · exact Or.inl ⟨h1, by unfold nextF; rw [if_neg h1, if_pos h2]⟩
  obtain ⟨n, rfl⟩ : ∃ n : Nat, z = n := ⟨z.toNat, by omega⟩
  have hN : nextF p n = match firstF (p.drop n) with
    | none => ⟨0, [], n, 2⟩
    | some x => ⟨x.1, x.2, (n : Int) + 18 + x.2.length, 1⟩ := by
    unfold nextF; rw [if_neg h1, if_neg h2, Int.toNat_natCast]; try (cases firstF (p.drop n) <;> rfl)
  cases hf : firstF (p.drop n) with
  | none => exact Or.inl ⟨h1, by rw [hN, hf]⟩
  | some x =>
    obtain ⟨pl, pay⟩ := x
    have hfm := firstF_form hf (fun x hx => hb x (List.mem_of_mem_drop hx))
    have hlen : n + 18 + pay.length ≤ p.length := by
      have := congrArg List.length hfm.2.2.2.2
      rw [List.length_append, frB_len, List.length_drop] at this
      omega
    refine Or.inr ⟨n, pl, pay, rfl, ?_, hfm.1, hfm.2.1, hfm.2.2.1, hfm.2.2.2.1, hlen, ?_, hf⟩
    · rw [hN, hf]; simp
    · conv => lhs; rw [hfm.2.2.2.2]
      rw [List.take_append_of_le_length (by rw [frB_len]; omega), List.take_of_length_le (by rw [frB_len]; omega)]

theorem Rd.cutN {w : World} {b off cap : Nat} {p : List Nat} (h : Rd w (.slice (some ⟨b, off, none⟩) p.length cap) p) (n N : Nat) (hn : n ≤ N) (hN : N ≤ p.length) : Rd w (.slice (some ⟨b, off + n, none⟩) (N - n) (cap - n)) ((p.drop n).take (N - n)) := by
  obtain ⟨ao', len', cap', he, _, h2, ⟨h3, h3'⟩, h4, h5, h6⟩ := h
  cases he
  refine ⟨_, _, _, rfl, by rw [List.length_take, List.length_drop]; omega, by omega, ⟨by omega, by omega⟩, fun h => by simp at h, fun x hx => h5 x (List.mem_of_mem_drop (List.mem_of_mem_take hx)), fun hp => ?_⟩
  obtain ⟨b', off', e, hc⟩ := h6 (by omega)
  cases e
  refine ⟨b, off + n, rfl, fun i hi => ?_⟩
  have := hc (n + i) (by omega)
  rw [Nat.add_assoc, this, List.getD_eq_getElem?_getD, List.getD_eq_getElem?_getD, List.getElem?_take, if_pos hi, List.getElem?_drop]
theorem encE_good {p : List Nat} (h1 : 1 ≤ p.length) (h2 : p.length ≤ 65535) : encE p = 0 := by unfold encE; rw [if_neg (by omega), if_neg (by omega)]
theorem encB_good {pl : Nat} {p : List Nat} (h1 : 1 ≤ p.length) (h2 : p.length ≤ 65535) : encB pl p = frB pl p := by unfold encB; rw [encE_good h1 h2]; rfl
end Go.Proofs.YtckkalmhekfnhabGreatDoor
namespace Go.Proofs.YtckkalmhekfnhabGreatDoor
open Go.RowKit Go.BigFrame
set_option linter.unusedVariables false
set_option linter.unusedSimpArgs false

set_option maxRecDepth 100000 in
set_option maxHeartbeats 2000000 in
theorem bequal_any (u v : Value) (p q : List Nat) (w : World) (hu : Rd w u p) (hv : Rd w v q) :
    Calls Tryz.prog 139 #[u, v] w fun e w' => e = .returned (.bool (decide (p = q))) ∧ w' = w := by
  have hu5 : Tryz.prog.underlying 5 = some (.int .u8) := by kernel_rfl
  have hu9 : Tryz.prog.underlying 9 = some .string := by kernel_rfl
  have c1 := conv_any u p w hu hu5 hu9
  have c2 := conv_any v q w hv hu5 hu9
  have hd : ((strOf p).toList == (strOf q).toList) = decide (p = q) := by
    rw [ba_toList, ba_toList]
    by_cases h : p = q
    · subst h; simp
    · have h2 : ¬ (strOf p).data.toList = (strOf q).data.toList := fun e => h (strOf_inj hu.byte hv.byte (by
        have e2 := congrArg List.toArray e
        simp only [Array.toArray_toList] at e2
        cases hp : strOf p; cases hq : strOf q
        rw [hp, hq] at e2
        simp only at e2
        rw [e2]))
      rw [decide_eq_false h]
      exact beq_eq_false_iff_ne.2 h2
  have Hd := hide hd
  generalize strOf p = s1 at *
  generalize strOf q = s2 at *
  clear hu hv hu5 hu9 hd
  go_enter Tryz.func139, Tryz.ntmps139
  go_wp2
  go_ret
  exact ⟨by rw [unhide Hd]; rfl, rfl⟩

set_option maxRecDepth 100000 in
set_option maxHeartbeats 1000000 in
theorem bhasP_any (u v : Value) (p q : List Nat) (w : World) (hu : Rd w u p) (hv : Rd w v q) (hl : q.length ≤ p.length) :
    Calls Tryz.prog 111 #[u, v] w fun e w' => e = .returned (.bool (decide (p.take q.length = q))) ∧ w' = w := by
  have HU := hide hu
  have HV := hide hv
  obtain ⟨a1, n1, c1, rfl, hn1, hc1, ⟨hc2, hc3⟩, _⟩ := id hu
  obtain ⟨a2, n2, c2, rfl, hn2, _⟩ := id hv
  subst hn1
  subst hn2
  have hl' : (q.length : Int) ≤ p.length := by omega
  have hc9 : (q.length : Int) ≤ c1 := by omega
  have HC := hide ((unhide HU).take0 hl)
  clear hu hv
  go_enter Tryz.func111, Tryz.ntmps111
  go_wp2_with fail
  refine Calls.mono (bequal_any _ _ (p.take q.length) q w (unhide HC) (unhide HV)) ?_
  rintro e w1 ⟨rfl, rfl⟩
  go_wp2
  go_ret
  exact ⟨rfl, rfl⟩

set_option maxRecDepth 100000 in
set_option maxHeartbeats 1000000 in
theorem cutP_any (b off cap : Nat) (v : Value) (p q : List Nat) (w : World) (hu : Rd w (.slice (some ⟨b, off, none⟩) p.length cap) p) (hv : Rd w v q) (hlt : q.length < p.length) :
    Calls Tryz.prog 70 #[.slice (some ⟨b, off, none⟩) p.length cap, v] w fun e w' => e = .returned (.tuple #[if p.take q.length = q then .slice (some ⟨b, off + q.length, none⟩) (p.length - q.length) (cap - q.length) else .slice (some ⟨b, off, none⟩) p.length cap, .bool (decide (p.take q.length = q))]) ∧ w' = w := by
  have HU := hide hu
  have HV := hide hv
  obtain ⟨_, _, _, he, _, hc1, ⟨hc2, hc3⟩, _⟩ := id hu
  cases he
  obtain ⟨a2, n2, c2, rfl, hn2, _⟩ := id hv
  subst hn2
  have hl : q.length ≤ p.length := by omega
  have hl' : (q.length : Int) ≤ p.length := by omega
  have hcq : ¬ cap = q.length := by omega
  have hc9 : (q.length : Int) ≤ cap := by omega
  clear hu hv
  by_cases he : p.take q.length = q
  · rw [if_pos he, decide_eq_true he]
    have HE := hide (decide_eq_true he)
    clear he
    go_enter Tryz.func70, Tryz.ntmps70
    go_wp2_with fail
    refine Calls.mono (bhasP_any _ _ p q w (unhide HU) (unhide HV) hl) ?_
    rintro e w1 ⟨rfl, rfl⟩
    rw [unhide HE]
    go_wp2
    go_ret2
    exact ⟨by simp, rfl⟩
  · rw [if_neg he, decide_eq_false he]
    have HE := hide (decide_eq_false he)
    clear he
    go_enter Tryz.func70, Tryz.ntmps70
    go_wp2_with fail
    refine Calls.mono (bhasP_any _ _ p q w (unhide HU) (unhide HV) hl) ?_
    rintro e w1 ⟨rfl, rfl⟩
    rw [unhide HE]
    go_wp2
    go_ret2
    exact ⟨by simp, rfl⟩

set_option maxRecDepth 100000 in
set_option maxHeartbeats 2000000 in
theorem numberAt_any (b off cap i : Nat) (p : List Nat) (w : World) (hu : Rd w (.slice (some ⟨b, off, none⟩) p.length cap) p) (hi : i < 3) (hl : p.length = 25) :
    Calls Tryz.prog 71 #[.slice (some ⟨b, off, none⟩) p.length cap, .int .i64 i] w fun e w' => e = .returned (.int .u64 (beL ((p.drop (i * 8)).take 8))) ∧ w' = w := by
  obtain ⟨_, _, _, he, _, hc1, ⟨hc2, hc3⟩, _, hby, hcl⟩ := id hu
  cases he
  obtain ⟨b9, o9, e9, hcell⟩ := hcl (by omega)
  cases e9
  obtain ⟨q, hq⟩ : ∃ q, (p.drop (i * 8)).take 8 = q := ⟨_, rfl⟩
  have hql : q.length = 8 := by rw [← hq, List.length_take, List.length_drop]; omega
  have HC := hide (fun k (hk : k < 8) => by
    have h9 := hcell (i * 8 + k) (by omega)
    have e9 : p.getD (i * 8 + k) 0 = q.getD k 0 := by
      rw [← hq, List.getD_eq_getElem?_getD, List.getD_eq_getElem?_getD, List.getElem?_take, if_pos hk, List.getElem?_drop]
    rw [e9] at h9
    exact h9 : ∀ k, k < 8 → w.cell? ⟨b, off + (i * 8 + k), none⟩ = some (u8 (q.getD k 0)))
  have HB := hide (fun k (hk : k < 8) => by
    have hm : ∀ x ∈ q, x < 256 := fun x hx => by rw [← hq] at hx; exact hby _ (List.mem_of_mem_drop (List.mem_of_mem_take hx))
    rw [List.getD_eq_getElem?_getD, List.getElem?_eq_getElem (by omega)]
    exact hm _ (List.getElem_mem _) : ∀ k, k < 8 → q.getD k 0 < 256)
  have HQL := hide hql
  rw [hq]
  rw [hl] at hc1 ⊢
  clear hu hby hcl hcell hq hql
  have hc4 : (25 : Int) ≤ cap := by omega
  have hi3 : i = 0 ∨ i = 1 ∨ i = 2 := by omega
  clear hi
  rcases hi3 with rfl | rfl | rfl
  all_goals
    have hc5 : ¬ cap = 8 := by omega
    have hc6 : ¬ cap = 16 := by omega
    have hc7 : ¬ cap = 0 := by omega
    go_enter Tryz.func71, Tryz.ntmps71
    go_wp2_with fail
    go_loopw [5, 16] (fun t5 t16 wr => ∃ k : Nat, k ≤ 8 ∧ t16 = .int .i64 k ∧ t5 = .int .u64 (beL (q.take k)) ∧ wr = w) (fun _ i _ => 8 - (intOf i).toNat)
    case atStart => exact ⟨0, Nat.zero_le _, rfl, by simp [beL], rfl⟩
    case round =>
      obtain ⟨k, hk, rfl, rfl, rfl⟩ := hrel
      by_cases hlt : k < 8
      · have hck := unhide HC k hlt
        have hcb := unhide HB k hlt
        have hsn := beL_snoc q k (by rw [unhide HQL]; exact hlt)
        have hval := or_byte (beL (q.take k)) (q.getD k 0) hcb
        rw [← hsn] at hval
        obtain ⟨c, hcc⟩ : ∃ c, q.getD k 0 = c := ⟨_, rfl⟩
        have ha1 := beL_lt (q.take k)
        obtain ⟨a, ha⟩ : ∃ a, beL (q.take k) = a := ⟨_, rfl⟩
        obtain ⟨a', ha'⟩ : ∃ a', beL (q.take (k + 1)) = a' := ⟨_, rfl⟩
        rw [hcc] at hck hcb hval
        rw [ha] at hval ha1 ⊢
        rw [ha'] at hval
        have Ha' := hide ha'
        have hlt' : (k : Int) < 8 := by omega
        clear hcc ha ha' hsn
        simp only [Nat.zero_mul, Nat.zero_add, Nat.one_mul, Nat.reduceMul, ← Nat.add_assoc] at hck
        go_wp2
        go_roundw
        case rel => exact ⟨k + 1, by omega, by go_num, by rw [unhide Ha'], trivial⟩
        case measure => simp [intOf]; omega
      · have hlt' : ¬ (k : Int) < 8 := by omega
        obtain rfl : k = 8 := by omega
        have HT := hide (List.take_of_length_le (by rw [unhide HQL]; exact Nat.le_refl _) : q.take 8 = q)
        rw [unhide HT]
        go_wp2
        go_ret
        exact ⟨rfl, rfl⟩
end Go.Proofs.YtckkalmhekfnhabGreatDoor
namespace Go.Proofs.YtckkalmhekfnhabGreatDoor
open Go.RowKit
end Go.Proofs.YtckkalmhekfnhabGreatDoor
