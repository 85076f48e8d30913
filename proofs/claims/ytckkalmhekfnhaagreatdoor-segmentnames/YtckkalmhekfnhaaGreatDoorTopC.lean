import Derived.Test.YtckkalmhekfnhaaGreatDoorTopB
import Derived.Test.YtckkalmhekfnhaaGreatDoorTopA
import Derived.Deep.RegionHeld3
import Derived.Test.YtckkalmhekfnhaaGreatDoorTSame
import Derived.Test.YtckkalmhekfnhaaGreatDoorCat
import Derived.Deep.Cut
namespace Go.Proofs.YtckkalmhekfnhaaGreatDoor
open Go.RowKit Go.BigFrame
set_option linter.unusedVariables false
set_option linter.unusedSimpArgs false

theorem results_cell_tmp2 {P : Program} {fn : Func} {p q r : Tmp} {ty : TypeId} (h : fn.results = #[.cell p ty, .tmp q, .tmp r]) (tmps : Array Value) (w : World) (g : Nat) (t : TypeId) (cs : Array Value) (fr : Nat × Nat) (d : TypeDesc)
    (hp : tmps.getD p undef = .pointer (some ⟨g, 0, none⟩)) (hg : w.heap[g]? = some (.cells cs t fr))
    (hu : P.underlying ty = some d) (hd : (match d with | .struct _ | .array _ _ => true | _ => false) = true) (hi : (P.info? ty).map (·.size) = some cs.size) (v u : Value) (hq : tmps.getD q undef = v) (hr : tmps.getD r undef = u) :
    (results fn tmps).run P w = .ok (.tuple #[.agg cs, v, u]) w := by
  have hp' : tmps[p]?.getD undef = .pointer (some ⟨g, 0, none⟩) := by simpa using hp
  have hq' : tmps[q]?.getD undef = v := by simpa using hq
  have hr' : tmps[r]?.getD undef = u := by simpa using hr
  simp [results, h, hp', hq', hr', asAddr, run_loadVar_row w g t ty cs fr d hg hu hd hi]

/-- What stands in p at the place z: place, payload, the place behind it, the kind. -/
structure NxR where
  pl : Nat
  pay : List Nat
  next : Int
  kind : Nat
def nextF (p : List Nat) (z : Int) : NxR :=
  if z = p.length then ⟨0, [], z, 0⟩ else if z < 0 ∨ (p.length : Int) < z then ⟨0, [], z, 2⟩ else
  match firstF (p.drop z.toNat) with
  | none => ⟨0, [], z, 2⟩
  | some x => ⟨x.1, x.2, z + 18 + x.2.length, 1⟩
theorem Rd.dropN {w : World} {b off cap : Nat} {p : List Nat} (h : Rd w (.slice (some ⟨b, off, none⟩) p.length cap) p) (n : Nat) (hn : n ≤ p.length) : Rd w (.slice (some ⟨b, off + n, none⟩) (p.length - n) (cap - n)) (p.drop n) := by
  obtain ⟨ao', len', cap', he, _, h2, ⟨h3, h3'⟩, h4, h5, h6⟩ := h
  cases he
  refine ⟨_, _, _, rfl, by rw [List.length_drop], by omega, ⟨by omega, by omega⟩, fun h => by simp at h, fun x hx => h5 x (List.mem_of_mem_drop hx), fun hp => ?_⟩
  obtain ⟨b', off', e, hc⟩ := h6 (by omega)
  cases e
  refine ⟨b, off + n, rfl, fun i hi => ?_⟩
  have := hc (n + i) (by omega)
  rw [Nat.add_assoc, this, List.getD_eq_getElem?_getD, List.getD_eq_getElem?_getD, List.getElem?_drop]

set_option maxRecDepth 100000 in
set_option maxHeartbeats 2000000 in
theorem next_any (v : Value) (p : List Nat) (z : Int) (w : World) (h : Rd w v p) (hz : -9223372036854775808 ≤ z ∧ z ≤ 9223372036854775807) :
    Calls Tryz.prog 74 #[v, .int .i64 z] w fun e w' => ∃ v', e = .returned (.tuple #[.agg #[.int .u64 (nextF p z).pl, v'], .int .i64 (nextF p z).next, .int .i64 (nextF p z).kind]) ∧ NewP w w' v' (nextF p z).pay ∧ Kept [] w w' := by
  have H := hide h
  obtain ⟨a1, n1, c1, rfl, hn1, hc1, ⟨hc2, hc3⟩, _, _, hcell⟩ := id h
  subst hn1
  clear h
  have HZ0 := hide (heap_alloc_new w (.cells #[.int .u64 0, .slice none 0 0] 83))
  have HK0 := hide ((Kept.refl [] w).alloc (.cells #[.int .u64 0, .slice none 0 0] 83))
  have HQ0 := hide (put2_heap (unhide HZ0) (.int .u64 0) (.slice none 0 0))
  have HKQ := hide (put2_kept (unhide HK0) w.heap.size (Nat.le_refl _) (.int .u64 0) (.slice none 0 0))
  by_cases h1 : z = p.length
  · have hN : nextF p z = ⟨0, [], z, 0⟩ := by unfold nextF; rw [if_pos h1]
    rw [hN]
    clear hN hcell
    subst h1
    go_enter Tryz.func74, Tryz.ntmps74
    go_wp2
    refine bodyPost_ret (v := .tuple #[.agg #[.int .u64 0, .slice none 0 0], .int .i64 p.length, .int .i64 0]) ?_ rfl ⟨_, rfl, NewP.nil _ _, unhide HK0⟩
    exact results_cell_tmp2 rfl _ _ w.heap.size _ #[.int .u64 0, .slice none 0 0] (0, 0) _ rfl (unhide HZ0) Tryz.underlying83 rfl Tryz.size_frame _ _ rfl rfl
  have h1' : (z == (p.length : Int)) = false := by rw [beq_eq_false_iff_ne]; exact h1
  by_cases h2 : z < 0
  · have hN : nextF p z = ⟨0, [], z, 2⟩ := by unfold nextF; rw [if_neg h1, if_pos (Or.inl h2)]
    rw [hN]
    clear hN hcell
    go_enter Tryz.func74, Tryz.ntmps74
    go_wp2
    refine bodyPost_ret (v := .tuple #[.agg #[.int .u64 0, .slice none 0 0], .int .i64 z, .int .i64 2]) ?_ rfl ⟨_, rfl, NewP.nil _ _, unhide HK0⟩
    exact results_cell_tmp2 rfl _ _ w.heap.size _ #[.int .u64 0, .slice none 0 0] (0, 0) _ rfl (unhide HZ0) Tryz.underlying83 rfl Tryz.size_frame _ _ rfl rfl
  by_cases h3 : (p.length : Int) < z
  · have hN : nextF p z = ⟨0, [], z, 2⟩ := by unfold nextF; rw [if_neg h1, if_pos (Or.inr h3)]
    rw [hN]
    clear hN hcell
    go_enter Tryz.func74, Tryz.ntmps74
    go_wp2
    refine bodyPost_ret (v := .tuple #[.agg #[.int .u64 0, .slice none 0 0], .int .i64 z, .int .i64 2]) ?_ rfl ⟨_, rfl, NewP.nil _ _, unhide HK0⟩
    exact results_cell_tmp2 rfl _ _ w.heap.size _ #[.int .u64 0, .slice none 0 0] (0, 0) _ rfl (unhide HZ0) Tryz.underlying83 rfl Tryz.size_frame _ _ rfl rfl
  obtain ⟨n, rfl⟩ : ∃ n : Nat, z = n := ⟨z.toNat, by omega⟩
  have hn : n < p.length := by omega
  obtain ⟨bb, off, rfl, hcl⟩ := hcell (by omega)
  clear hcell hcl
  have HD := hide ((unhide H).dropN n (by omega))
  have HNF := hide (by unfold nextF; rw [if_neg h1, if_neg (by omega), Int.toNat_natCast] : nextF p n = match firstF (p.drop n) with
    | none => ⟨0, [], n, 2⟩
    | some x => ⟨x.1, x.2, (n : Int) + 18 + x.2.length, 1⟩)
  cases hf : firstF (p.drop n) with
  | none =>
    rw [hf] at HNF
    rw [unhide HNF]
    have HF := hide hf
    clear hf
    have h3' : ¬ (p.length : Int) < n := by omega
    go_enter Tryz.func74, Tryz.ntmps74
    go_wp2_with fail
    refine Calls.mono (first_any _ (p.drop n) _ ((unhide HD).old (unhide HK0) (by simp))) ?_
    rintro e w1 ⟨v1, rfl, n1, k1⟩
    rw [unhide HF]
    have HZ1 := hide (k1.heap (unhide HZ0) (by simp))
    have HK1 := hide ((unhide HK0).trans k1 (by simp))
    obtain ⟨a2, n2, c2, hv1, _⟩ := id n1.1
    subst hv1
    clear k1 n1
    have k2 := (Kept.refl [] w1).alloc (.cells #[.int .u64 (fstPl (p.drop n) : Int), .slice a2 n2 c2] 83)
    have HZ2 := hide (k2.heap (unhide HZ1) (by simp))
    have HK2 := hide ((unhide HK1).alloc (.cells #[.int .u64 (fstPl (p.drop n) : Int), .slice a2 n2 c2] 83))
    have d0 : (w1.alloc (.cells #[.int .u64 (fstPl (p.drop n) : Int), .slice a2 n2 c2] 83)).cell? ⟨w.heap.size, 0, none⟩ = some (.int .u64 0) := by rw [cell_of_row _ _ _ _ _ _ (unhide HZ2)]; rfl
    have d1 : (w1.alloc (.cells #[.int .u64 (fstPl (p.drop n) : Int), .slice a2 n2 c2] 83)).cell? ⟨w.heap.size, 1, none⟩ = some (.slice none 0 0) := by rw [cell_of_row _ _ _ _ _ _ (unhide HZ2)]; rfl
    have f0 : (w1.alloc (.cells #[.int .u64 (fstPl (p.drop n) : Int), .slice a2 n2 c2] 83)).frozen? ⟨w.heap.size, 0, none⟩ = false := frozen_of_row _ _ _ _ _ (unhide HZ2)
    have f1 : (w1.alloc (.cells #[.int .u64 (fstPl (p.drop n) : Int), .slice a2 n2 c2] 83)).frozen? ⟨w.heap.size, 1, none⟩ = false := frozen_of_row _ _ _ _ _ (unhide HZ2)
    clear k2
    go_wp2
    refine bodyPost_ret (v := .tuple #[.agg #[.int .u64 0, .slice none 0 0], .int .i64 n, .int .i64 2]) ?_ rfl ⟨_, rfl, NewP.nil _ _, put2_kept (unhide HK2) w.heap.size (Nat.le_refl _) (.int .u64 0) (.slice none 0 0)⟩
    exact results_cell_tmp2 rfl _ _ w.heap.size _ #[.int .u64 0, .slice none 0 0] (0, 0) _ rfl (put2_heap (unhide HZ2) (.int .u64 0) (.slice none 0 0)) Tryz.underlying83 rfl Tryz.size_frame _ _ rfl rfl
  | some x =>
    obtain ⟨pl, pay⟩ := x
    rw [hf] at HNF
    rw [unhide HNF]
    have hfm := firstF_form hf (fun x hx => (unhide H).byte x (List.mem_of_mem_drop hx))
    have hlen : n + 18 + pay.length ≤ p.length := by
      have := congrArg List.length hfm.2.2.2.2
      rw [List.length_append, frB_len, List.length_drop] at this
      omega
    have HF := hide hf
    have e1 : fstPl (p.drop n) = pl := by simp [fstPl, hf]
    have e2 : fstPay (p.drop n) = pay := by simp [fstPay, hf]
    clear hf
    have h3' : ¬ (p.length : Int) < n := by omega
    go_enter Tryz.func74, Tryz.ntmps74
    go_wp2_with fail
    refine Calls.mono (first_any _ (p.drop n) _ ((unhide HD).old (unhide HK0) (by simp))) ?_
    rintro e w1 ⟨v1, rfl, n1, k1⟩
    rw [e2] at n1
    rw [unhide HF, e1]
    have HZ1 := hide (k1.heap (unhide HZ0) (by simp))
    have HK1 := hide ((unhide HK0).trans k1 (by simp))
    have HN1 := hide n1
    obtain ⟨a2, n2, c2, hv1, hn2, _⟩ := id n1.1
    subst hv1
    subst hn2
    clear k1 n1 e1 e2 hfm
    have k2 := (Kept.refl [] w1).alloc (.cells #[.int .u64 (pl : Int), .slice a2 pay.length c2] 83)
    have HZ2 := hide (k2.heap (unhide HZ1) (by simp))
    have HK2 := hide ((unhide HK1).alloc (.cells #[.int .u64 (pl : Int), .slice a2 pay.length c2] 83))
    have d0 : (w1.alloc (.cells #[.int .u64 (pl : Int), .slice a2 pay.length c2] 83)).cell? ⟨w.heap.size, 0, none⟩ = some (.int .u64 0) := by rw [cell_of_row _ _ _ _ _ _ (unhide HZ2)]; rfl
    have d1 : (w1.alloc (.cells #[.int .u64 (pl : Int), .slice a2 pay.length c2] 83)).cell? ⟨w.heap.size, 1, none⟩ = some (.slice none 0 0) := by rw [cell_of_row _ _ _ _ _ _ (unhide HZ2)]; rfl
    have f0 : (w1.alloc (.cells #[.int .u64 (pl : Int), .slice a2 pay.length c2] 83)).frozen? ⟨w.heap.size, 0, none⟩ = false := frozen_of_row _ _ _ _ _ (unhide HZ2)
    have f1 : (w1.alloc (.cells #[.int .u64 (pl : Int), .slice a2 pay.length c2] 83)).frozen? ⟨w.heap.size, 1, none⟩ = false := frozen_of_row _ _ _ _ _ (unhide HZ2)
    clear k2
    go_wp2
    obtain ⟨W, hW⟩ : ∃ W, w1.alloc (.cells #[.int .u64 (pl : Int), .slice a2 pay.length c2] 83) = W := ⟨_, rfl⟩
    have HC := hide (heap_alloc_new w1 (.cells #[.int .u64 (pl : Int), .slice a2 pay.length c2] 83))
    have hlt1 : w.heap.size < w1.heap.size := lt_of_block (unhide HZ1)
    have HNW := hide ((unhide HN1).1.old ((Kept.refl [] w1).alloc (.cells #[.int .u64 (pl : Int), .slice a2 pay.length c2] 83)) (by simp))
    rw [hW] at HC d0 d1 f0 f1 HZ2 HK2 HNW ⊢
    clear hW
    have e0 : W.cell? ⟨w1.heap.size, 0, none⟩ = some (.int .u64 pl) := by rw [cell_of_row _ _ _ _ _ _ (unhide HC)]; rfl
    have e1 : W.cell? ⟨w1.heap.size, 1, none⟩ = some (.slice a2 pay.length c2) := by rw [cell_of_row _ _ _ _ _ _ (unhide HC)]; rfl
    have hne : w.heap.size ≠ w1.heap.size := by omega
    have HB1 := hide (fun x hx => by have h9 := (unhide HN1).2 x hx; have h8 : (w.alloc (.cells #[.int .u64 0, .slice none 0 0] 83)).heap.size = w.heap.size + 1 := by simp
                                     omega : ∀ x ∈ blk (.slice a2 pay.length c2), w.heap.size + 1 ≤ x)
    have HRQ := hide ((unhide HNW).kept (put2_kept' W w.heap.size (.int .u64 pl) (.slice a2 pay.length c2)) (by
      intro x hx hm
      have h9 := unhide HB1 x hx
      have h8 : x = w.heap.size := by simpa using hm
      omega))
    go_region_held3 (fun w' => w'.cell? ⟨w1.heap.size, 0, none⟩ = some (.int .u64 pl) ∧ w'.cell? ⟨w1.heap.size, 1, none⟩ = some (.slice a2 pay.length c2)) (go_keep) (fail)
    have hww : IntKind.i64.wrap (IntKind.i64.wrap ((n : Int) + 18) + pay.length) = (n : Int) + 18 + pay.length := by rw [IntKind.wrap_i64, IntKind.wrap_i64]; omega
    all_goals go_wp2
    all_goals
      refine bodyPost_ret (v := .tuple #[.agg #[.int .u64 pl, .slice a2 pay.length c2], .int .i64 ((n : Int) + 18 + pay.length), .int .i64 1]) ?_ rfl ⟨.slice a2 pay.length c2, rfl, ⟨unhide HRQ, fun x hx => by have h9 := unhide HB1 x hx; omega⟩, (put2_kept (unhide HK2) w.heap.size (Nat.le_refl _) (.int .u64 pl) (.slice a2 pay.length c2)).drew⟩
      refine results_cell_tmp2 rfl _ _ w.heap.size 83 #[.int .u64 pl, .slice a2 pay.length c2] (0, 0) _ rfl (by exact put2_heap (unhide HZ2) (.int .u64 pl) (.slice a2 pay.length c2)) Tryz.underlying83 rfl Tryz.size_frame _ _ ?_ rfl
      simp [hww]
end Go.Proofs.YtckkalmhekfnhaaGreatDoor
namespace Go.Proofs.YtckkalmhekfnhaaGreatDoor
open Go.RowKit Go.BigFrame
set_option linter.unusedVariables false
set_option linter.unusedSimpArgs false

theorem nextF_frB (pl : Nat) (pay t : List Nat) (hpl : pl < 18446744073709551616) (h1 : 1 ≤ pay.length) (hl : pay.length ≤ 65535) (hb : ∀ x ∈ pay, x < 256) : nextF (frB pl pay ++ t) 0 = ⟨pl, pay, 18 + (pay.length : Int), 1⟩ := by
  have h := firstF_some pl pay t hpl h1 hl hb
  have hlen : (frB pl pay ++ t).length = pay.length + 18 + t.length := by rw [List.length_append, frB_len]
  unfold nextF
  rw [if_neg (by rw [hlen]; omega), if_neg (by rw [hlen]; omega), Int.toNat_zero, List.drop_zero, h]
  simp

theorem next79 : nextF (frB 7 [9]) 0 = ⟨7, [9], 19, 1⟩ := by
  have := nextF_frB 7 [9] [] (by decide) (by decide) (by decide) (by decide)
  rw [List.append_nil] at this
  exact this

end Go.Proofs.YtckkalmhekfnhaaGreatDoor
namespace Go.Proofs.YtckkalmhekfnhaaGreatDoor
open Go.RowKit Go.BigFrame
set_option linter.unusedVariables false
set_option linter.unusedSimpArgs false

theorem nextF_cases (p : List Nat) (z : Int) (hb : ∀ x ∈ p, x < 256) :
    (z = p.length ∧ nextF p z = ⟨0, [], z, 0⟩) ∨ (z ≠ p.length ∧ nextF p z = ⟨0, [], z, 2⟩) ∨
    ∃ (n pl : Nat) (pay : List Nat), z = n ∧ nextF p z = ⟨pl, pay, ((n + 18 + pay.length : Nat) : Int), 1⟩ ∧ pl < 18446744073709551616 ∧ 1 ≤ pay.length ∧ pay.length ≤ 65535 ∧ (∀ x ∈ pay, x < 256) ∧ n + 18 + pay.length ≤ p.length ∧ (p.drop n).take (18 + pay.length) = frB pl pay ∧ firstF (p.drop n) = some (pl, pay) := by
  by_cases h1 : z = p.length
  · exact Or.inl ⟨h1, by unfold nextF; rw [if_pos h1]⟩
  refine Or.inr ?_
  by_cases h2 : z < 0 ∨ (p.length : Int) < z
  · exact Or.inl ⟨h1, by unfold nextF; rw [if_neg h1, if_pos h2]⟩
  obtain ⟨n, rfl⟩ : ∃ n : Nat, z = n := ⟨z.toNat, by omega⟩
  have hN : nextF p n = match firstF (p.drop n) with
    | none => ⟨0, [], n, 2⟩
    | some x => ⟨x.1, x.2, (n : Int) + 18 + x.2.length, 1⟩ := by
    unfold nextF; rw [if_neg h1, if_neg h2, Int.toNat_natCast]; try (cases firstF (p.drop n) <;> rfl)
  cases hf : firstF (p.drop n) with
  | none => exact Or.inl ⟨h1, by rw [hN, hf]⟩
  | some x =>
    obtain ⟨pl, pay⟩ := x
    have hfm := firstF_form hf (fun x hx => hb x (List.mem_of_mem_drop hx))
    have hlen : n + 18 + pay.length ≤ p.length := by
      have := congrArg List.length hfm.2.2.2.2
      rw [List.length_append, frB_len, List.length_drop] at this
      omega
    refine Or.inr ⟨n, pl, pay, rfl, ?_, hfm.1, hfm.2.1, hfm.2.2.1, hfm.2.2.2.1, hlen, ?_, hf⟩
    · rw [hN, hf]; simp
    · conv => lhs; rw [hfm.2.2.2.2]
      rw [List.take_append_of_le_length (by rw [frB_len]; omega), List.take_of_length_le (by rw [frB_len]; omega)]

theorem Rd.cutN {w : World} {b off cap : Nat} {p : List Nat} (h : Rd w (.slice (some ⟨b, off, none⟩) p.length cap) p) (n N : Nat) (hn : n ≤ N) (hN : N ≤ p.length) : Rd w (.slice (some ⟨b, off + n, none⟩) (N - n) (cap - n)) ((p.drop n).take (N - n)) := by
  obtain ⟨ao', len', cap', he, _, h2, ⟨h3, h3'⟩, h4, h5, h6⟩ := h
  cases he
  refine ⟨_, _, _, rfl, by rw [List.length_take, List.length_drop]; omega, by omega, ⟨by omega, by omega⟩, fun h => by simp at h, fun x hx => h5 x (List.mem_of_mem_drop (List.mem_of_mem_take hx)), fun hp => ?_⟩
  obtain ⟨b', off', e, hc⟩ := h6 (by omega)
  cases e
  refine ⟨b, off + n, rfl, fun i hi => ?_⟩
  have := hc (n + i) (by omega)
  rw [Nat.add_assoc, this, List.getD_eq_getElem?_getD, List.getD_eq_getElem?_getD, List.getElem?_take, if_pos hi, List.getElem?_drop]
theorem encE_good {p : List Nat} (h1 : 1 ≤ p.length) (h2 : p.length ≤ 65535) : encE p = 0 := by unfold encE; rw [if_neg (by omega), if_neg (by omega)]
theorem encB_good {pl : Nat} {p : List Nat} (h1 : 1 ≤ p.length) (h2 : p.length ≤ 65535) : encB pl p = frB pl p := by unfold encB; rw [encE_good h1 h2]; rfl
end Go.Proofs.YtckkalmhekfnhaaGreatDoor
namespace Go.Proofs.YtckkalmhekfnhaaGreatDoor
open Go.RowKit Go.BigFrame
set_option linter.unusedVariables false
set_option linter.unusedSimpArgs false

set_option maxRecDepth 100000 in
set_option maxHeartbeats 2000000 in
theorem bequal_any (u v : Value) (p q : List Nat) (w : World) (hu : Rd w u p) (hv : Rd w v q) :
    Calls Tryz.prog 140 #[u, v] w fun e w' => e = .returned (.bool (decide (p = q))) ∧ w' = w := by
  have hu5 : Tryz.prog.underlying 5 = some (.int .u8) := by kernel_rfl
  have hu9 : Tryz.prog.underlying 9 = some .string := by kernel_rfl
  have c1 := conv_any u p w hu hu5 hu9
  have c2 := conv_any v q w hv hu5 hu9
  have hd : ((strOf p).toList == (strOf q).toList) = decide (p = q) := by
    rw [ba_toList, ba_toList]
    by_cases h : p = q
    · subst h; simp
    · have h2 : ¬ (strOf p).data.toList = (strOf q).data.toList := fun e => h (strOf_inj hu.byte hv.byte (by
        have e2 := congrArg List.toArray e
        simp only [Array.toArray_toList] at e2
        cases hp : strOf p; cases hq : strOf q
        rw [hp, hq] at e2
        simp only at e2
        rw [e2]))
      rw [decide_eq_false h]
      exact beq_eq_false_iff_ne.2 h2
  have Hd := hide hd
  generalize strOf p = s1 at *
  generalize strOf q = s2 at *
  clear hu hv hu5 hu9 hd
  go_enter Tryz.func140, Tryz.ntmps140
  go_wp2
  go_ret
  exact ⟨by rw [unhide Hd]; rfl, rfl⟩

set_option maxRecDepth 100000 in
set_option maxHeartbeats 1000000 in
theorem bhasP_any (u v : Value) (p q : List Nat) (w : World) (hu : Rd w u p) (hv : Rd w v q) (hl : q.length ≤ p.length) :
    Calls Tryz.prog 113 #[u, v] w fun e w' => e = .returned (.bool (decide (p.take q.length = q))) ∧ w' = w := by
  have HU := hide hu
  have HV := hide hv
  obtain ⟨a1, n1, c1, rfl, hn1, hc1, ⟨hc2, hc3⟩, _⟩ := id hu
  obtain ⟨a2, n2, c2, rfl, hn2, _⟩ := id hv
  subst hn1
  subst hn2
  have hl' : (q.length : Int) ≤ p.length := by omega
  have hc9 : (q.length : Int) ≤ c1 := by omega
  have HC := hide ((unhide HU).take0 hl)
  clear hu hv
  go_enter Tryz.func113, Tryz.ntmps113
  go_wp2_with fail
  refine Calls.mono (bequal_any _ _ (p.take q.length) q w (unhide HC) (unhide HV)) ?_
  rintro e w1 ⟨rfl, rfl⟩
  go_wp2
  go_ret
  exact ⟨rfl, rfl⟩

set_option maxRecDepth 100000 in
set_option maxHeartbeats 1000000 in
theorem cutP_any (b off cap : Nat) (v : Value) (p q : List Nat) (w : World) (hu : Rd w (.slice (some ⟨b, off, none⟩) p.length cap) p) (hv : Rd w v q) (hlt : q.length < p.length) :
    Calls Tryz.prog 75 #[.slice (some ⟨b, off, none⟩) p.length cap, v] w fun e w' => e = .returned (.tuple #[if p.take q.length = q then .slice (some ⟨b, off + q.length, none⟩) (p.length - q.length) (cap - q.length) else .slice (some ⟨b, off, none⟩) p.length cap, .bool (decide (p.take q.length = q))]) ∧ w' = w := by
  have HU := hide hu
  have HV := hide hv
  obtain ⟨_, _, _, he, _, hc1, ⟨hc2, hc3⟩, _⟩ := id hu
  cases he
  obtain ⟨a2, n2, c2, rfl, hn2, _⟩ := id hv
  subst hn2
  have hl : q.length ≤ p.length := by omega
  have hl' : (q.length : Int) ≤ p.length := by omega
  have hcq : ¬ cap = q.length := by omega
  have hc9 : (q.length : Int) ≤ cap := by omega
  clear hu hv
  by_cases he : p.take q.length = q
  · rw [if_pos he, decide_eq_true he]
    have HE := hide (decide_eq_true he)
    clear he
    go_enter Tryz.func75, Tryz.ntmps75
    go_wp2_with fail
    refine Calls.mono (bhasP_any _ _ p q w (unhide HU) (unhide HV) hl) ?_
    rintro e w1 ⟨rfl, rfl⟩
    rw [unhide HE]
    go_wp2
    go_ret2
    exact ⟨by simp, rfl⟩
  · rw [if_neg he, decide_eq_false he]
    have HE := hide (decide_eq_false he)
    clear he
    go_enter Tryz.func75, Tryz.ntmps75
    go_wp2_with fail
    refine Calls.mono (bhasP_any _ _ p q w (unhide HU) (unhide HV) hl) ?_
    rintro e w1 ⟨rfl, rfl⟩
    rw [unhide HE]
    go_wp2
    go_ret2
    exact ⟨by simp, rfl⟩

set_option maxRecDepth 100000 in
set_option maxHeartbeats 2000000 in
theorem numberAt_any (b off cap i : Nat) (p : List Nat) (w : World) (hu : Rd w (.slice (some ⟨b, off, none⟩) p.length cap) p) (hi : i < 3) (hl : p.length = 25) :
    Calls Tryz.prog 76 #[.slice (some ⟨b, off, none⟩) p.length cap, .int .i64 i] w fun e w' => e = .returned (.int .u64 (beL ((p.drop (i * 8)).take 8))) ∧ w' = w := by
  obtain ⟨_, _, _, he, _, hc1, ⟨hc2, hc3⟩, _, hby, hcl⟩ := id hu
  cases he
  obtain ⟨b9, o9, e9, hcell⟩ := hcl (by omega)
  cases e9
  obtain ⟨q, hq⟩ : ∃ q, (p.drop (i * 8)).take 8 = q := ⟨_, rfl⟩
  have hql : q.length = 8 := by rw [← hq, List.length_take, List.length_drop]; omega
  have HC := hide (fun k (hk : k < 8) => by
    have h9 := hcell (i * 8 + k) (by omega)
    have e9 : p.getD (i * 8 + k) 0 = q.getD k 0 := by
      rw [← hq, List.getD_eq_getElem?_getD, List.getD_eq_getElem?_getD, List.getElem?_take, if_pos hk, List.getElem?_drop]
    rw [e9] at h9
    exact h9 : ∀ k, k < 8 → w.cell? ⟨b, off + (i * 8 + k), none⟩ = some (u8 (q.getD k 0)))
  have HB := hide (fun k (hk : k < 8) => by
    have hm : ∀ x ∈ q, x < 256 := fun x hx => by rw [← hq] at hx; exact hby _ (List.mem_of_mem_drop (List.mem_of_mem_take hx))
    rw [List.getD_eq_getElem?_getD, List.getElem?_eq_getElem (by omega)]
    exact hm _ (List.getElem_mem _) : ∀ k, k < 8 → q.getD k 0 < 256)
  have HQL := hide hql
  rw [hq]
  rw [hl] at hc1 ⊢
  clear hu hby hcl hcell hq hql
  have hc4 : (25 : Int) ≤ cap := by omega
  have hi3 : i = 0 ∨ i = 1 ∨ i = 2 := by omega
  clear hi
  rcases hi3 with rfl | rfl | rfl
  all_goals
    have hc5 : ¬ cap = 8 := by omega
    have hc6 : ¬ cap = 16 := by omega
    have hc7 : ¬ cap = 0 := by omega
    go_enter Tryz.func76, Tryz.ntmps76
    go_wp2_with fail
    go_loopw [5, 16] (fun t5 t16 wr => ∃ k : Nat, k ≤ 8 ∧ t16 = .int .i64 k ∧ t5 = .int .u64 (beL (q.take k)) ∧ wr = w) (fun _ i _ => 8 - (intOf i).toNat)
    case atStart => exact ⟨0, Nat.zero_le _, rfl, by simp [beL], rfl⟩
    case round =>
      obtain ⟨k, hk, rfl, rfl, rfl⟩ := hrel
      by_cases hlt : k < 8
      · have hck := unhide HC k hlt
        have hcb := unhide HB k hlt
        have hsn := beL_snoc q k (by rw [unhide HQL]; exact hlt)
        have hval := or_byte (beL (q.take k)) (q.getD k 0) hcb
        rw [← hsn] at hval
        obtain ⟨c, hcc⟩ : ∃ c, q.getD k 0 = c := ⟨_, rfl⟩
        have ha1 := beL_lt (q.take k)
        obtain ⟨a, ha⟩ : ∃ a, beL (q.take k) = a := ⟨_, rfl⟩
        obtain ⟨a', ha'⟩ : ∃ a', beL (q.take (k + 1)) = a' := ⟨_, rfl⟩
        rw [hcc] at hck hcb hval
        rw [ha] at hval ha1 ⊢
        rw [ha'] at hval
        have Ha' := hide ha'
        have hlt' : (k : Int) < 8 := by omega
        clear hcc ha ha' hsn
        simp only [Nat.zero_mul, Nat.zero_add, Nat.one_mul, Nat.reduceMul, ← Nat.add_assoc] at hck
        go_wp2
        go_roundw
        case rel => exact ⟨k + 1, by omega, by go_num, by rw [unhide Ha'], trivial⟩
        case measure => simp [intOf]; omega
      · have hlt' : ¬ (k : Int) < 8 := by omega
        obtain rfl : k = 8 := by omega
        have HT := hide (List.take_of_length_le (by rw [unhide HQL]; exact Nat.le_refl _) : q.take 8 = q)
        rw [unhide HT]
        go_wp2
        go_ret
        exact ⟨rfl, rfl⟩
end Go.Proofs.YtckkalmhekfnhaaGreatDoor
namespace Go.Proofs.YtckkalmhekfnhaaGreatDoor
open Go.RowKit
end Go.Proofs.YtckkalmhekfnhaaGreatDoor
/-
  Laws for drawn regions, by genreg.py. No program.
-/
namespace Go.Proofs.YtckkalmhekfnhaaGreatDoor
open Go Go.RowKit Go.BigFrame
set_option linter.unusedVariables false
set_option linter.unusedSimpArgs false
section
variable {P : Program} {Q : Exit → Act → World → Prop}
theorem wp_sh13 {id : Nat} {o0 o1 o2 o3 o4 o5 o6 o7 o8 o9 o10 o11 o12 : Oper} {a : Act} {w : World} (hm : P.follows .mixedOrders = true) (hs : Region.noSelect #[o0, o1, o2, o3, o4, o5, o6, o7, o8, o9, o10, o11, o12] = true)
    (f0 : Region.free .any #[o0, o1, o2, o3, o4, o5, o6, o7, o8, o9, o10, o11, o12] #[false, false, false, false, false, false, false, false, false, false, false, false, false] 0 = true) (r0 : (Region.ready .any #[o0, o1, o2, o3, o4, o5, o6, o7, o8, o9, o10, o11, o12] #[false, false, false, false, false, false, false, false, false, false, false, false, false]).contains 0 = true)
    (f2 : Region.free .any #[o0, o1, o2, o3, o4, o5, o6, o7, o8, o9, o10, o11, o12] #[true, false, false, false, false, false, false, false, false, false, false, false, false] 2 = true) (r2 : (Region.ready .any #[o0, o1, o2, o3, o4, o5, o6, o7, o8, o9, o10, o11, o12] #[true, false, false, false, false, false, false, false, false, false, false, false, false]).contains 2 = true)
    (f4 : Region.free .any #[o0, o1, o2, o3, o4, o5, o6, o7, o8, o9, o10, o11, o12] #[true, false, true, false, false, false, false, false, false, false, false, false, false] 4 = true) (r4 : (Region.ready .any #[o0, o1, o2, o3, o4, o5, o6, o7, o8, o9, o10, o11, o12] #[true, false, true, false, false, false, false, false, false, false, false, false, false]).contains 4 = true)
    (f6 : Region.free .any #[o0, o1, o2, o3, o4, o5, o6, o7, o8, o9, o10, o11, o12] #[true, false, true, false, true, false, false, false, false, false, false, false, false] 6 = true) (r6 : (Region.ready .any #[o0, o1, o2, o3, o4, o5, o6, o7, o8, o9, o10, o11, o12] #[true, false, true, false, true, false, false, false, false, false, false, false, false]).contains 6 = true)
    (f7 : Region.free .any #[o0, o1, o2, o3, o4, o5, o6, o7, o8, o9, o10, o11, o12] #[true, false, true, false, true, false, true, false, false, false, false, false, false] 7 = true) (r7 : (Region.ready .any #[o0, o1, o2, o3, o4, o5, o6, o7, o8, o9, o10, o11, o12] #[true, false, true, false, true, false, true, false, false, false, false, false, false]).contains 7 = true)
    (f8 : Region.free .any #[o0, o1, o2, o3, o4, o5, o6, o7, o8, o9, o10, o11, o12] #[true, false, true, false, true, false, true, true, false, false, false, false, false] 8 = true) (r8 : (Region.ready .any #[o0, o1, o2, o3, o4, o5, o6, o7, o8, o9, o10, o11, o12] #[true, false, true, false, true, false, true, true, false, false, false, false, false]).contains 8 = true)
    (f9 : Region.free .any #[o0, o1, o2, o3, o4, o5, o6, o7, o8, o9, o10, o11, o12] #[true, false, true, false, true, false, true, true, true, false, false, false, false] 9 = true) (r9 : (Region.ready .any #[o0, o1, o2, o3, o4, o5, o6, o7, o8, o9, o10, o11, o12] #[true, false, true, false, true, false, true, true, true, false, false, false, false]).contains 9 = true)
    (q_ : Region.ready .any #[o0, o1, o2, o3, o4, o5, o6, o7, o8, o9, o10, o11, o12] #[true, false, true, false, true, false, true, true, true, true, false, false, false] = [1, 11])
    (q1_ : Region.ready .any #[o0, o1, o2, o3, o4, o5, o6, o7, o8, o9, o10, o11, o12] #[true, true, true, false, true, false, true, true, true, true, false, false, false] = [3, 11])
    (q11_ : Region.ready .any #[o0, o1, o2, o3, o4, o5, o6, o7, o8, o9, o10, o11, o12] #[true, false, true, false, true, false, true, true, true, true, false, true, false] = [1])
    (q1_3_ : Region.ready .any #[o0, o1, o2, o3, o4, o5, o6, o7, o8, o9, o10, o11, o12] #[true, true, true, true, true, false, true, true, true, true, false, false, false] = [5, 11])
    (f1_3_5_10 : Region.free .any #[o0, o1, o2, o3, o4, o5, o6, o7, o8, o9, o10, o11, o12] #[true, true, true, true, true, true, true, true, true, true, false, false, false] 10 = true) (r1_3_5_10 : (Region.ready .any #[o0, o1, o2, o3, o4, o5, o6, o7, o8, o9, o10, o11, o12] #[true, true, true, true, true, true, true, true, true, true, false, false, false]).contains 10 = true)
    (q1_11_ : Region.ready .any #[o0, o1, o2, o3, o4, o5, o6, o7, o8, o9, o10, o11, o12] #[true, true, true, false, true, false, true, true, true, true, false, true, false] = [3])
    (q1_3_5_ : Region.ready .any #[o0, o1, o2, o3, o4, o5, o6, o7, o8, o9, o10, o11, o12] #[true, true, true, true, true, true, true, true, true, true, true, false, false] = [11])
    (q1_3_11_ : Region.ready .any #[o0, o1, o2, o3, o4, o5, o6, o7, o8, o9, o10, o11, o12] #[true, true, true, true, true, false, true, true, true, true, false, true, false] = [5])
    (f1_3_11_5_10 : Region.free .any #[o0, o1, o2, o3, o4, o5, o6, o7, o8, o9, o10, o11, o12] #[true, true, true, true, true, true, true, true, true, true, false, true, false] 10 = true) (r1_3_11_5_10 : (Region.ready .any #[o0, o1, o2, o3, o4, o5, o6, o7, o8, o9, o10, o11, o12] #[true, true, true, true, true, true, true, true, true, true, false, true, false]).contains 10 = true)
    (q1_3_5_11_ : Region.ready .any #[o0, o1, o2, o3, o4, o5, o6, o7, o8, o9, o10, o11, o12] #[true, true, true, true, true, true, true, true, true, true, true, true, false] = [12])
    (q1_3_5_11_12_ : Region.ready .any #[o0, o1, o2, o3, o4, o5, o6, o7, o8, o9, o10, o11, o12] #[true, true, true, true, true, true, true, true, true, true, true, true, true] = [])
    (g1 : o1.guard = none)    (g3 : o3.guard = none)    (g5 : o5.guard = none)    (g11 : o11.guard = none)    (g12 : o12.guard = none)
    (ne11_1 : ∀ d, o11.dst = some d → o1.dst ≠ some d)
    (ne11_3 : ∀ d, o11.dst = some d → o3.dst ≠ some d)
    (ne11_5 : ∀ d, o11.dst = some d → o5.dst ≠ some d)
    (ne11_10 : ∀ d, o11.dst = some d → o10.dst ≠ some d)
    (v0 v2 v4 v6 v7 v8 v9 : Value) (A0 A1 A2 A3 A4 A5 A6 : Act)
    (S : World → Prop)
    (I_ : World → Prop)
    (I1_ : Value → World → Prop)
    (I11_ : Value → World → Prop)
    (I1_3_ : Value → Value → World → Prop)
    (I1_11_ : Value → Value → World → Prop)
    (I1_3_5_ : Value → Value → Value → World → Prop)
    (I1_3_11_ : Value → Value → Value → World → Prop)
    (I1_3_5_11_ : Value → Value → Value → Value → World → Prop)
    (I1_3_5_11_12_ : Value → Value → Value → Value → Value → World → Prop)
    (v10 : Value → Value → Value → Value)
    (p0 : a.put o0.dst v0 = A0) (hy0 : YieldsIf P #[o0, o1, o2, o3, o4, o5, o6, o7, o8, o9, o10, o11, o12] S o0 v0 a)
    (p2 : A0.put o2.dst v2 = A1) (hy2 : YieldsIf P #[o0, o1, o2, o3, o4, o5, o6, o7, o8, o9, o10, o11, o12] S o2 v2 A0)
    (p4 : A1.put o4.dst v4 = A2) (hy4 : YieldsIf P #[o0, o1, o2, o3, o4, o5, o6, o7, o8, o9, o10, o11, o12] S o4 v4 A1)
    (p6 : A2.put o6.dst v6 = A3) (hy6 : YieldsIf P #[o0, o1, o2, o3, o4, o5, o6, o7, o8, o9, o10, o11, o12] S o6 v6 A2)
    (p7 : A3.put o7.dst v7 = A4) (hy7 : YieldsIf P #[o0, o1, o2, o3, o4, o5, o6, o7, o8, o9, o10, o11, o12] S o7 v7 A3)
    (p8 : A4.put o8.dst v8 = A5) (hy8 : YieldsIf P #[o0, o1, o2, o3, o4, o5, o6, o7, o8, o9, o10, o11, o12] S o8 v8 A4)
    (p9 : A5.put o9.dst v9 = A6) (hy9 : YieldsIf P #[o0, o1, o2, o3, o4, o5, o6, o7, o8, o9, o10, o11, o12] S o9 v9 A5)
    (i0 : I_ w.drew)
    (hIS : (∀ w', I_  w' → S w') ∧ (∀ (u1 : Value) w', I1_ u1 w' → S w') ∧ (∀ (u11 : Value) w', I11_ u11 w' → S w') ∧ (∀ (u1 u3 : Value) w', I1_3_ u1 u3 w' → S w') ∧ (∀ (u1 u11 : Value) w', I1_11_ u1 u11 w' → S w') ∧ (∀ (u1 u3 u5 : Value) w', I1_3_5_ u1 u3 u5 w' → S w') ∧ (∀ (u1 u3 u11 : Value) w', I1_3_11_ u1 u3 u11 w' → S w') ∧ (∀ (u1 u3 u5 u11 : Value) w', I1_3_5_11_ u1 u3 u5 u11 w' → S w') ∧ (∀ (u1 u3 u5 u11 u12 : Value) w', I1_3_5_11_12_ u1 u3 u5 u11 u12 w' → S w'))
    (s_1 : ∀ w', I_  w' → ∀ K : Act → World → Prop, (∀ (u1 : Value) w2, I1_ u1 w2 → K (A6.put o1.dst u1) w2) → o1.wp P A6 w' K (NoPanic Q))
    (s_11 : ∀ w', I_  w' → ∀ K : Act → World → Prop, (∀ (u11 : Value) w2, I11_ u11 w2 → K (A6.put o11.dst u11) w2) → o11.wp P A6 w' K (NoPanic Q))
    (s1_3 : ∀ (u1 : Value) w', I1_ u1 w' → ∀ K : Act → World → Prop, (∀ (u3 : Value) w2, I1_3_ u1 u3 w2 → K ((A6.put o1.dst u1).put o3.dst u3) w2) → o3.wp P (A6.put o1.dst u1) w' K (NoPanic Q))
    (s1_11 : ∀ (u1 : Value) w', I1_ u1 w' → ∀ K : Act → World → Prop, (∀ (u11 : Value) w2, I1_11_ u1 u11 w2 → K ((A6.put o1.dst u1).put o11.dst u11) w2) → o11.wp P (A6.put o1.dst u1) w' K (NoPanic Q))
    (s11_1 : ∀ (u11 : Value) w', I11_ u11 w' → ∀ K : Act → World → Prop, (∀ (u1 : Value) w2, I1_11_ u1 u11 w2 → K ((A6.put o11.dst u11).put o1.dst u1) w2) → o1.wp P (A6.put o11.dst u11) w' K (NoPanic Q))
    (s1_3_5 : ∀ (u1 u3 : Value) w', I1_3_ u1 u3 w' → ∀ K : Act → World → Prop, (∀ (u5 : Value) w2, I1_3_5_ u1 u3 u5 w2 → K (((A6.put o1.dst u1).put o3.dst u3).put o5.dst u5) w2) → o5.wp P ((A6.put o1.dst u1).put o3.dst u3) w' K (NoPanic Q))
    (s1_3_11 : ∀ (u1 u3 : Value) w', I1_3_ u1 u3 w' → ∀ K : Act → World → Prop, (∀ (u11 : Value) w2, I1_3_11_ u1 u3 u11 w2 → K (((A6.put o1.dst u1).put o3.dst u3).put o11.dst u11) w2) → o11.wp P ((A6.put o1.dst u1).put o3.dst u3) w' K (NoPanic Q))
    (s1_11_3 : ∀ (u1 u11 : Value) w', I1_11_ u1 u11 w' → ∀ K : Act → World → Prop, (∀ (u3 : Value) w2, I1_3_11_ u1 u3 u11 w2 → K (((A6.put o1.dst u1).put o11.dst u11).put o3.dst u3) w2) → o3.wp P ((A6.put o1.dst u1).put o11.dst u11) w' K (NoPanic Q))
    (s1_3_5_11 : ∀ (u1 u3 u5 : Value) w', I1_3_5_ u1 u3 u5 w' → ∀ K : Act → World → Prop, (∀ (u11 : Value) w2, I1_3_5_11_ u1 u3 u5 u11 w2 → K (((((A6.put o1.dst u1).put o3.dst u3).put o5.dst u5).put o10.dst (v10 u1 u3 u5)).put o11.dst u11) w2) → o11.wp P ((((A6.put o1.dst u1).put o3.dst u3).put o5.dst u5).put o10.dst (v10 u1 u3 u5)) w' K (NoPanic Q))
    (s1_3_11_5 : ∀ (u1 u3 u11 : Value) w', I1_3_11_ u1 u3 u11 w' → ∀ K : Act → World → Prop, (∀ (u5 : Value) w2, I1_3_5_11_ u1 u3 u5 u11 w2 → K ((((A6.put o1.dst u1).put o3.dst u3).put o11.dst u11).put o5.dst u5) w2) → o5.wp P (((A6.put o1.dst u1).put o3.dst u3).put o11.dst u11) w' K (NoPanic Q))
    (s1_3_5_11_12 : ∀ (u1 u3 u5 u11 : Value) w', I1_3_5_11_ u1 u3 u5 u11 w' → ∀ K : Act → World → Prop, (∀ (u12 : Value) w2, I1_3_5_11_12_ u1 u3 u5 u11 u12 w2 → K ((((((A6.put o1.dst u1).put o3.dst u3).put o5.dst u5).put o10.dst (v10 u1 u3 u5)).put o11.dst u11).put o12.dst u12) w2) → o12.wp P (((((A6.put o1.dst u1).put o3.dst u3).put o5.dst u5).put o10.dst (v10 u1 u3 u5)).put o11.dst u11) w' K (NoPanic Q))
    (y1_3_5_10 : ∀ (u1 u3 u5 : Value) w', I1_3_5_ u1 u3 u5 w' → YieldsIf P #[o0, o1, o2, o3, o4, o5, o6, o7, o8, o9, o10, o11, o12] S o10 (v10 u1 u3 u5) (((A6.put o1.dst u1).put o3.dst u3).put o5.dst u5))
    (y1_3_11_5_10 : ∀ (u1 u3 u5 u11 : Value) w', I1_3_5_11_ u1 u3 u5 u11 w' → YieldsIf P #[o0, o1, o2, o3, o4, o5, o6, o7, o8, o9, o10, o11, o12] S o10 (v10 u1 u3 u5) ((((A6.put o1.dst u1).put o3.dst u3).put o5.dst u5).put o11.dst u11))
    (h : ∀ (u1 u3 u5 u11 u12 : Value) w', I1_3_5_11_12_ u1 u3 u5 u11 u12 w' → Q .normal ((((((A6.put o1.dst u1).put o3.dst u3).put o5.dst u5).put o10.dst (v10 u1 u3 u5)).put o11.dst u11).put o12.dst u12) w') :
    (Code.region id #[o0, o1, o2, o3, o4, o5, o6, o7, o8, o9, o10, o11, o12] true).wp P Q a w := by
  subst p0 p2 p4 p6 p7 p8 p9
  obtain ⟨z_, z1_, z11_, z1_3_, z1_11_, z1_3_5_, z1_3_11_, z1_3_5_11_, z1_3_5_11_12_⟩ := hIS
  refine wp_region_noPanic ?_
  refine wp_region_held_drew (S := S) hm (z_ _ i0) (fun hH => ?_)
  show wpAnyH P .any #[o0, o1, o2, o3, o4, o5, o6, o7, o8, o9, o10, o11, o12] (NoPanic Q) S 13 #[false, false, false, false, false, false, false, false, false, false, false, false, false] a w.drew
  refine wpAnyH_take (i := 0) (oi := o0) rfl hs f0 r0 (fun _ _ _ h => h) hy0 hH ?_
  refine wpAnyH_take (i := 2) (oi := o2) rfl hs f2 r2 (fun _ _ _ h => h) hy2 hH ?_
  refine wpAnyH_take (i := 4) (oi := o4) rfl hs f4 r4 (fun _ _ _ h => h) hy4 hH ?_
  refine wpAnyH_take (i := 6) (oi := o6) rfl hs f6 r6 (fun _ _ _ h => h) hy6 hH ?_
  refine wpAnyH_take (i := 7) (oi := o7) rfl hs f7 r7 (fun _ _ _ h => h) hy7 hH ?_
  refine wpAnyH_take (i := 8) (oi := o8) rfl hs f8 r8 (fun _ _ _ h => h) hy8 hH ?_
  refine wpAnyH_take (i := 9) (oi := o9) rfl hs f9 r9 (fun _ _ _ h => h) hy9 hH ?_
  generalize (((((((a.put o0.dst v0).put o2.dst v2).put o4.dst v4).put o6.dst v6).put o7.dst v7).put o8.dst v8).put o9.dst v9) = B at *
  have wa1 : ∀ y, Region.wanted o1 y = true := fun y => by unfold Region.wanted; rw [g1]
  have wa3 : ∀ y, Region.wanted o3 y = true := fun y => by unfold Region.wanted; rw [g3]
  have wa5 : ∀ y, Region.wanted o5 y = true := fun y => by unfold Region.wanted; rw [g5]
  have wa11 : ∀ y, Region.wanted o11 y = true := fun y => by unfold Region.wanted; rw [g11]
  have wa12 : ∀ y, Region.wanted o12 y = true := fun y => by unfold Region.wanted; rw [g12]
  have t1_3_5_11_12_ : ∀ (u1 u3 u5 u11 u12 : Value) w', I1_3_5_11_12_ u1 u3 u5 u11 u12 w' → wpAnyH P .any #[o0, o1, o2, o3, o4, o5, o6, o7, o8, o9, o10, o11, o12] (NoPanic Q) S 0 #[true, true, true, true, true, true, true, true, true, true, true, true, true] ((((((B.put o1.dst u1).put o3.dst u3).put o5.dst u5).put o10.dst (v10 u1 u3 u5)).put o11.dst u11).put o12.dst u12) w' := by
    intro u1 u3 u5 u11 u12 w0 i0
    exact ⟨q1_3_5_11_12_, NoPanic.normal (h u1 u3 u5 u11 u12 w0 i0)⟩
  have t1_3_5_11_ : ∀ (u1 u3 u5 u11 : Value) w', I1_3_5_11_ u1 u3 u5 u11 w' → wpAnyH P .any #[o0, o1, o2, o3, o4, o5, o6, o7, o8, o9, o10, o11, o12] (NoPanic Q) S 1 #[true, true, true, true, true, true, true, true, true, true, true, true, false] (((((B.put o1.dst u1).put o3.dst u3).put o5.dst u5).put o10.dst (v10 u1 u3 u5)).put o11.dst u11) w' := by
    intro u1 u3 u5 u11 w0 i0
    refine wpAnyH_ready (rs := [12]) q1_3_5_11_ (by simp) (AllReadyH.cons (o := o12) rfl (fun K hK => ?_) AllReadyH.nil)
    · rw [if_pos (wa12 _)]
      refine s1_3_5_11_12 u1 u3 u5 u11 w0 i0 K (fun u12 w1 i1 => hK.out _ _ (z1_3_5_11_12_ u1 u3 u5 u11 u12 w1 i1) (fun _ => ?_))
      clear hK
      exact t1_3_5_11_12_ u1 u3 u5 u11 u12 w1 i1
  have t1_3_11_ : ∀ (u1 u3 u11 : Value) w', I1_3_11_ u1 u3 u11 w' → wpAnyH P .any #[o0, o1, o2, o3, o4, o5, o6, o7, o8, o9, o10, o11, o12] (NoPanic Q) S 3 #[true, true, true, true, true, false, true, true, true, true, false, true, false] (((B.put o1.dst u1).put o3.dst u3).put o11.dst u11) w' := by
    intro u1 u3 u11 w0 i0
    refine wpAnyH_ready (rs := [5]) q1_3_11_ (by simp) (AllReadyH.cons (o := o5) rfl (fun K hK => ?_) AllReadyH.nil)
    · rw [if_pos (wa5 _)]
      refine s1_3_11_5 u1 u3 u11 w0 i0 K (fun u5 w1 i1 => hK.out _ _ (z1_3_5_11_ u1 u3 u5 u11 w1 i1) (fun _ => ?_))
      clear hK
      rw [Act.put_comm _ _ _ ne11_5]
      refine wpAnyH_take (i := 10) (oi := o10) rfl hs f1_3_11_5_10 r1_3_11_5_10 (fun _ _ _ h => h) (y1_3_11_5_10 u1 u3 u5 u11 w1 i1) (z1_3_5_11_ u1 u3 u5 u11 w1 i1) ?_
      rw [Act.put_comm _ _ _ ne11_10]
      exact t1_3_5_11_ u1 u3 u5 u11 w1 i1
  have t1_3_5_ : ∀ (u1 u3 u5 : Value) w', I1_3_5_ u1 u3 u5 w' → wpAnyH P .any #[o0, o1, o2, o3, o4, o5, o6, o7, o8, o9, o10, o11, o12] (NoPanic Q) S 2 #[true, true, true, true, true, true, true, true, true, true, true, false, false] ((((B.put o1.dst u1).put o3.dst u3).put o5.dst u5).put o10.dst (v10 u1 u3 u5)) w' := by
    intro u1 u3 u5 w0 i0
    refine wpAnyH_ready (rs := [11]) q1_3_5_ (by simp) (AllReadyH.cons (o := o11) rfl (fun K hK => ?_) AllReadyH.nil)
    · rw [if_pos (wa11 _)]
      refine s1_3_5_11 u1 u3 u5 w0 i0 K (fun u11 w1 i1 => hK.out _ _ (z1_3_5_11_ u1 u3 u5 u11 w1 i1) (fun _ => ?_))
      clear hK
      exact t1_3_5_11_ u1 u3 u5 u11 w1 i1
  have t1_11_ : ∀ (u1 u11 : Value) w', I1_11_ u1 u11 w' → wpAnyH P .any #[o0, o1, o2, o3, o4, o5, o6, o7, o8, o9, o10, o11, o12] (NoPanic Q) S 4 #[true, true, true, false, true, false, true, true, true, true, false, true, false] ((B.put o1.dst u1).put o11.dst u11) w' := by
    intro u1 u11 w0 i0
    refine wpAnyH_ready (rs := [3]) q1_11_ (by simp) (AllReadyH.cons (o := o3) rfl (fun K hK => ?_) AllReadyH.nil)
    · rw [if_pos (wa3 _)]
      refine s1_11_3 u1 u11 w0 i0 K (fun u3 w1 i1 => hK.out _ _ (z1_3_11_ u1 u3 u11 w1 i1) (fun _ => ?_))
      clear hK
      rw [Act.put_comm _ _ _ ne11_3]
      exact t1_3_11_ u1 u3 u11 w1 i1
  have t1_3_ : ∀ (u1 u3 : Value) w', I1_3_ u1 u3 w' → wpAnyH P .any #[o0, o1, o2, o3, o4, o5, o6, o7, o8, o9, o10, o11, o12] (NoPanic Q) S 4 #[true, true, true, true, true, false, true, true, true, true, false, false, false] ((B.put o1.dst u1).put o3.dst u3) w' := by
    intro u1 u3 w0 i0
    refine wpAnyH_ready (rs := [5, 11]) q1_3_ (by simp) (AllReadyH.cons (o := o5) rfl (fun K hK => ?_) (AllReadyH.cons (o := o11) rfl (fun K hK => ?_) AllReadyH.nil))
    · rw [if_pos (wa5 _)]
      refine s1_3_5 u1 u3 w0 i0 K (fun u5 w1 i1 => hK.out _ _ (z1_3_5_ u1 u3 u5 w1 i1) (fun _ => ?_))
      clear hK
      refine wpAnyH_take (i := 10) (oi := o10) rfl hs f1_3_5_10 r1_3_5_10 (fun _ _ _ h => h) (y1_3_5_10 u1 u3 u5 w1 i1) (z1_3_5_ u1 u3 u5 w1 i1) ?_
      exact t1_3_5_ u1 u3 u5 w1 i1
    · rw [if_pos (wa11 _)]
      refine s1_3_11 u1 u3 w0 i0 K (fun u11 w1 i1 => hK.out _ _ (z1_3_11_ u1 u3 u11 w1 i1) (fun _ => ?_))
      clear hK
      exact t1_3_11_ u1 u3 u11 w1 i1
  have t11_ : ∀ (u11 : Value) w', I11_ u11 w' → wpAnyH P .any #[o0, o1, o2, o3, o4, o5, o6, o7, o8, o9, o10, o11, o12] (NoPanic Q) S 5 #[true, false, true, false, true, false, true, true, true, true, false, true, false] (B.put o11.dst u11) w' := by
    intro u11 w0 i0
    refine wpAnyH_ready (rs := [1]) q11_ (by simp) (AllReadyH.cons (o := o1) rfl (fun K hK => ?_) AllReadyH.nil)
    · rw [if_pos (wa1 _)]
      refine s11_1 u11 w0 i0 K (fun u1 w1 i1 => hK.out _ _ (z1_11_ u1 u11 w1 i1) (fun _ => ?_))
      clear hK
      rw [Act.put_comm _ _ _ ne11_1]
      exact t1_11_ u1 u11 w1 i1
  have t1_ : ∀ (u1 : Value) w', I1_ u1 w' → wpAnyH P .any #[o0, o1, o2, o3, o4, o5, o6, o7, o8, o9, o10, o11, o12] (NoPanic Q) S 5 #[true, true, true, false, true, false, true, true, true, true, false, false, false] (B.put o1.dst u1) w' := by
    intro u1 w0 i0
    refine wpAnyH_ready (rs := [3, 11]) q1_ (by simp) (AllReadyH.cons (o := o3) rfl (fun K hK => ?_) (AllReadyH.cons (o := o11) rfl (fun K hK => ?_) AllReadyH.nil))
    · rw [if_pos (wa3 _)]
      refine s1_3 u1 w0 i0 K (fun u3 w1 i1 => hK.out _ _ (z1_3_ u1 u3 w1 i1) (fun _ => ?_))
      clear hK
      exact t1_3_ u1 u3 w1 i1
    · rw [if_pos (wa11 _)]
      refine s1_11 u1 w0 i0 K (fun u11 w1 i1 => hK.out _ _ (z1_11_ u1 u11 w1 i1) (fun _ => ?_))
      clear hK
      exact t1_11_ u1 u11 w1 i1
  have t_ : ∀ w', I_  w' → wpAnyH P .any #[o0, o1, o2, o3, o4, o5, o6, o7, o8, o9, o10, o11, o12] (NoPanic Q) S 6 #[true, false, true, false, true, false, true, true, true, true, false, false, false] B w' := by
    intro w0 i0
    refine wpAnyH_ready (rs := [1, 11]) q_ (by simp) (AllReadyH.cons (o := o1) rfl (fun K hK => ?_) (AllReadyH.cons (o := o11) rfl (fun K hK => ?_) AllReadyH.nil))
    · rw [if_pos (wa1 _)]
      refine s_1  w0 i0 K (fun u1 w1 i1 => hK.out _ _ (z1_ u1 w1 i1) (fun _ => ?_))
      clear hK
      exact t1_ u1 w1 i1
    · rw [if_pos (wa11 _)]
      refine s_11  w0 i0 K (fun u11 w1 i1 => hK.out _ _ (z11_ u11 w1 i1) (fun _ => ?_))
      clear hK
      exact t11_ u11 w1 i1
  exact t_ w.drew i0

end
end Go.Proofs.YtckkalmhekfnhaaGreatDoor
/-
  One operation: a call, by its contract.
-/
namespace Go.Proofs.YtckkalmhekfnhaaGreatDoor
open Go Go.RowKit Go.BigFrame
set_option linter.unusedVariables false
set_option linter.unusedSimpArgs false

theorem wp_callN {o : Oper} {a : Act} {w : World} {K : Act → World → Prop} {Q : Exit → Act → World → Prop} {f : FuncId} {xs : Array Operand} {ts : Array TypeId} (ho : o.op = .call { callee := .value (.func f), args := xs, argTypes := ts })
    (hcl : ∀ args W, (callFunc f args).run Tryz.prog W = .ok (.enter f args) W) (us : List Value) (he : xs.toList.map a.eval = us) {R : Ending → World → Prop}
    (hc : Calls Tryz.prog f us.toArray w R) (h : ∀ e w', R e w' → ∃ v, e = .returned v ∧ K (a.put o.dst v) w') : o.wp Tryz.prog a w K Q := by
  have he2 : xs.map a.eval = us.toArray := by rw [← he]; cases xs; simp only [List.map_toArray]
  unfold Oper.wp execOp
  simp only [ho]
  have hf : a.eval (.func f) = .func (.func f) #[] #[] := rfl
  simp only [resolve, invoke, hf, he2, Sem.run_bind, Sem.run_pure, Result.andThen_ok, hcl]
  simp [Deferred.ofValue, hcl, go_sem]
  refine hc.mono ?_
  intro e w2 h2
  obtain ⟨v, rfl, h3⟩ := h e w2 h2
  exact h3
end Go.Proofs.YtckkalmhekfnhaaGreatDoor
namespace Go.Proofs.YtckkalmhekfnhaaGreatDoor
open Go.RowKit Go.BigFrame
set_option linter.unusedVariables false
set_option linter.unusedSimpArgs false

theorem put4_heap {w : World} {g : Nat} {a b c d : Value} {t : TypeId} (h : w.heap[g]? = some (.cells #[a, b, c, d] t (0, 0))) (x y z u : Value) : ((((w.setCell ⟨g, 0, none⟩ x).setCell ⟨g, 1, none⟩ y).setCell ⟨g, 2, none⟩ z).setCell ⟨g, 3, none⟩ u).heap[g]? = some (.cells #[x, y, z, u] t (0, 0)) := by
  rw [heap_setCell_same _ g 3 _ t _ (heap_setCell_same _ g 2 _ t _ (heap_setCell_same _ g 1 _ t _ (heap_setCell_same w g 0 _ t _ h)))]; rfl
theorem put4_kept {w0 w : World} (k : Kept [] w0 w) (g : Nat) (hg : w0.heap.size ≤ g) (x y z u : Value) : Kept [] w0 ((((w.setCell ⟨g, 0, none⟩ x).setCell ⟨g, 1, none⟩ y).setCell ⟨g, 2, none⟩ z).setCell ⟨g, 3, none⟩ u) := (((k.setCell (Or.inr hg) x).setCell (Or.inr hg) y).setCell (Or.inr hg) z).setCell (Or.inr hg) u
theorem Tryz.size_head : (Tryz.prog.info? 32).map (·.size) = some 4 := by kernel_rfl
theorem hfroz {w : World} {b : Nat} {cs : Array Value} {t : TypeId} (h : w.heap[b]? = some (.cells cs t (0, 0))) : w.frozen? ⟨b, 0, none⟩ = false ∧ w.frozen? ⟨b, 1, none⟩ = false ∧ w.frozen? ⟨b, 2, none⟩ = false ∧ w.frozen? ⟨b, 3, none⟩ = false :=
  ⟨frozen_of_row _ _ _ _ _ h, frozen_of_row _ _ _ _ _ h, frozen_of_row _ _ _ _ _ h, frozen_of_row _ _ _ _ _ h⟩
theorem wp_allochead {o : Oper} {a : Act} {w : World} {K : Act → World → Prop} {Q : Exit → Act → World → Prop} (ho : o.op = .alloc 32) (h : K (a.put o.dst (.pointer (some ⟨w.heap.size, 0, none⟩))) (w.alloc (.cells #[.int .u64 0, .int .u64 0, .int .u64 0, .int .i64 0] 32))) : o.wp Tryz.prog a w K Q := by
  unfold Oper.wp execOp
  simp only [ho]
  go_simp
  exact h
theorem wrap_small {n : Nat} (h : n < 256) : IntKind.i64.wrap (n : Int) = (n : Int) := by
  simp [IntKind.wrap, IntKind.bits, IntKind.signed]; omega
/-- A head that was laid behind W. -/
def Ald (W : World) (u : Value) (cs : Array Value) (w : World) : Prop := ∃ g, u = .pointer (some ⟨g, 0, none⟩) ∧ W.heap.size ≤ g ∧ w.heap[g]? = some (.cells cs 32 (0, 0))
theorem ald_new {W w : World} (k : Kept [] W w) : Ald W (.pointer (some ⟨w.heap.size, 0, none⟩)) #[.int .u64 0, .int .u64 0, .int .u64 0, .int .i64 0] (w.alloc (.cells #[.int .u64 0, .int .u64 0, .int .u64 0, .int .i64 0] 32)) := ⟨_, rfl, k.size, heap_alloc_new _ _⟩
/-- The head with which p begins. -/
structure HdR where
  a : Nat
  b : Nat
  c : Nat
  d : Nat
def payH (pl : Nat) (pay : List Nat) : Bool := decide (pay.length = 30 ∧ pay.take 5 = [78, 84, 82, 89, 49] ∧ beL ((pay.drop 5).take 8) = pl ∧ 1 ≤ pay.getD 29 0 ∧ pay.getD 29 0 ≤ 32)
def hdF (p : List Nat) : Option HdR := match firstF p with
  | none => none
  | some x => if payH x.1 x.2 then some ⟨beL ((x.2.drop 5).take 8), beL ((x.2.drop 13).take 8), beL ((x.2.drop 21).take 8), x.2.getD 29 0⟩ else none
def hdC (p : List Nat) : HdR := (hdF p).getD ⟨0, 0, 0, 0⟩
def hdN (p : List Nat) : Nat := if (hdF p).isSome then 48 else 0
theorem nextF_kind {p : List Nat} (h : (nextF p 0).kind ≠ 1) : hdF p = none := by
  cases hf : firstF p with
  | none => unfold hdF; rw [hf]
  | some x =>
    exfalso
    apply h
    unfold nextF
    have hp : 0 < p.length := by
      rcases Nat.eq_zero_or_pos p.length with h0 | h0
      · rw [firstF_short (by omega)] at hf; cases hf
      · exact h0
    rw [if_neg (by omega), if_neg (by omega)]
    simp [hf]

set_option maxRecDepth 100000 in
set_option maxHeartbeats 4000000 in
theorem readHead_any (v : Value) (p : List Nat) (w : World) (h : Rd w v p) :
    Calls Tryz.prog 42 #[v] w fun e w' => e = .returned (.tuple #[.agg #[.int .u64 (hdC p).a, .int .u64 (hdC p).b, .int .u64 (hdC p).c, .int .i64 (hdC p).d], .int .i64 (hdN p), .bool (hdF p).isSome]) ∧ Kept [] w w' := by
  have H := hide h
  obtain ⟨a1, n1, c1, rfl, hn1, _⟩ := id h
  subst hn1
  clear h
  have HZ0 := hide (heap_alloc_new w (.cells #[.int .u64 0, .int .u64 0, .int .u64 0, .int .i64 0] 32))
  have HK0 := hide ((Kept.refl [] w).alloc (.cells #[.int .u64 0, .int .u64 0, .int .u64 0, .int .i64 0] 32))
  obtain ⟨X, hX⟩ : ∃ X, hdC p = X := ⟨_, rfl⟩
  obtain ⟨Y, hY⟩ : ∃ Y, hdN p = Y := ⟨_, rfl⟩
  obtain ⟨Z, hZ⟩ : ∃ Z, (hdF p).isSome = Z := ⟨_, rfl⟩
  rw [hX, hY, hZ]
  have HNO := hide (fun (h0 : hdF p = none) => by
    rw [← hX, ← hY, ← hZ]
    exact ⟨by simp [hdC, h0], by simp [hdN, h0], by simp [h0]⟩ : hdF p = none → X = ⟨0, 0, 0, 0⟩ ∧ Y = 0 ∧ Z = false)
  have HYE := hide (fun (x : HdR) (h0 : hdF p = some x) => by
    rw [← hX, ← hY, ← hZ]
    exact ⟨by simp [hdC, h0], by simp [hdN, h0], by simp [h0]⟩ : ∀ x, hdF p = some x → X = x ∧ Y = 48 ∧ Z = true)
  clear hX hY hZ
  go_enter Tryz.func42, Tryz.ntmps42
  go_wp2_with fail
  refine Calls.mono (next_any _ p 0 _ ((unhide H).old (unhide HK0) (by simp)) (by omega)) ?_
  rintro e w1 ⟨v1, rfl, n1, k1⟩
  obtain ⟨av, nv, cv, rfl, hnv, _⟩ := id n1.1
  have HN1 := hide n1
  have HZ1 := hide (k1.heap (unhide HZ0) (by simp))
  have HK1 := hide ((unhide HK0).trans k1 (by simp))
  have HLT1 := hide (lt_of_block (unhide HZ1) : w.heap.size < w1.heap.size)
  clear n1 k1 hnv
  have HZW := hide (((Kept.refl [] w1).alloc (.cells #[.int .u64 ((nextF p 0).pl : Int), .slice av nv cv] 83)).heap (unhide HZ1) (by simp))
  have HKW := hide ((unhide HK1).alloc (.cells #[.int .u64 ((nextF p 0).pl : Int), .slice av nv cv] 83))
  have HFW := hide (heap_alloc_new w1 (.cells #[.int .u64 ((nextF p 0).pl : Int), .slice av nv cv] 83))
  have HNW := hide ((unhide HN1).1.old ((Kept.refl [] w1).alloc (.cells #[.int .u64 ((nextF p 0).pl : Int), .slice av nv cv] 83)) (by simp))
  obtain ⟨W1, hW1⟩ : ∃ W, w1.alloc (.cells #[.int .u64 ((nextF p 0).pl : Int), .slice av nv cv] 83) = W := ⟨_, rfl⟩
  have HS1 := hide (by rw [← hW1]; simp : w1.heap.size < W1.heap.size)
  rw [hW1] at HZW HKW HFW HNW
  have HW1 := hide hW1
  clear hW1
  obtain ⟨d0, d1, d2, d3⟩ := hcells (unhide HZW)
  obtain ⟨f0, f1, f2, f3⟩ := hfroz (unhide HZW)
  have g0 : W1.cell? ⟨w1.heap.size, 0, none⟩ = some (.int .u64 ((nextF p 0).pl : Int)) := by rw [cell_of_row _ _ _ _ _ _ (unhide HFW)]; rfl
  have g1 : W1.cell? ⟨w1.heap.size, 1, none⟩ = some (.slice av nv cv) := by rw [cell_of_row _ _ _ _ _ _ (unhide HFW)]; rfl
  have HNK := hide (fun h => nextF_kind (p := p) h)
  have hcase := nextF_cases p 0 (unhide H).byte
  by_cases hkd : (nextF p 0).kind = 1
  · rcases hcase with ⟨_, hN⟩ | ⟨_, hN⟩ | ⟨m, pl, pay, hzn, hN, b1, b2, b3, b4, b5, b6, b7⟩
    · rw [hN] at hkd; simp at hkd
    · rw [hN] at hkd; simp at hkd
    · obtain rfl : m = 0 := by omega
      rw [List.drop_zero] at b7
      rw [hN] at HN1 HFW HNW HW1 g0 ⊢
      simp only at HN1 HFW HNW HW1 g0 ⊢
      have hnv : nv = pay.length := by obtain ⟨_, _, _, e, h9, _⟩ := (unhide HN1).1; cases e; exact h9.symm
      subst hnv
      have HHF := hide (by unfold hdF; rw [b7] : hdF p = if payH pl pay then some ⟨beL ((pay.drop 5).take 8), beL ((pay.drop 13).take 8), beL ((pay.drop 21).take 8), pay.getD 29 0⟩ else none)
      have hpl : (pl : Int) ≤ 18446744073709551615 := by omega
      clear hN hkd hzn b5 b6 b7 HNK
      by_cases hl30 : pay.length = 30
      · have HPL := hide hl30
        obtain ⟨_, _, _, he9, _, hcap9, ⟨hcm9, _⟩, _, _, hcl9⟩ := id (unhide HNW)
        cases he9
        obtain ⟨bq, oq, e9, _⟩ := hcl9 (by omega)
        cases e9
        clear hcl9
        have hcv : 30 ≤ cv := by omega
        clear hcap9
        rw [hl30] at HNW HN1 HFW HW1 g1 ⊢
        clear hl30
        obtain ⟨HHF30, hhf⟩ : ∃ q, q = pay := ⟨_, rfl⟩
        clear HHF30 hhf
        have kc := fun (w : World) (C : Array Value) (n c : Nat) => Lib.run_convert_bytes_const (P := Tryz.prog) w 36 5 C n c Tryz.underlying36 Tryz.underlying5
        have hsz1 : (w1.alloc (.cells #[.int .u64 (pl : Int), .slice (some ⟨bq, oq, none⟩) 30 cv] 83)).heap.size = w1.heap.size + 1 := by simp
        have kc1 := kc (w1.alloc (.cells #[.int .u64 (pl : Int), .slice (some ⟨bq, oq, none⟩) 30 cv] 83)) #[.int .u8 78, .int .u8 84, .int .u8 82, .int .u8 89, .int .u8 49] 5 5
        rw [hsz1] at kc1
        clear kc hsz1
        rw [← unhide HW1] at g0 g1
        go_wp2_with fail
        clear kc1 d0 d1 d2 d3 f0 f1 f2 f3 g0 g1
        rw [unhide HW1]
        have HK3 := hide ((Kept.refl [] W1).alloc (.cells #[.int .u8 78, .int .u8 84, .int .u8 82, .int .u8 89, .int .u8 49] 5 (5, 6)))
        have HR3 := hide (rd_row [78, 84, 82, 89, 49] (heap_alloc_new W1 (.cells #[.int .u8 78, .int .u8 84, .int .u8 82, .int .u8 89, .int .u8 49] 5 (5, 6))) rfl (by decide) 5 rfl (by decide))
        rw [show W1.heap.size = w1.heap.size + 1 by rw [← unhide HW1]; simp] at HR3
        obtain ⟨W3, hW3⟩ : ∃ W, W1.alloc (.cells #[.int .u8 78, .int .u8 84, .int .u8 82, .int .u8 89, .int .u8 49] 5 (5, 6)) = W := ⟨_, rfl⟩
        rw [hW3] at HK3 HR3 ⊢
        clear hW3
        have HZ3 := hide ((unhide HK3).heap (unhide HZW) (by simp))
        have HF3 := hide ((unhide HK3).heap (unhide HFW) (by simp))
        have HKW3 := hide ((unhide HKW).trans (unhide HK3) (by simp))
        have HNW3 := hide ((unhide HNW).old (unhide HK3) (by simp))
        have hcut := cutP_any bq oq cv _ pay [78, 84, 82, 89, 49] W3 (by rw [unhide HPL]; exact unhide HNW3) (unhide HR3) (by rw [unhide HPL]; decide)
        rw [unhide HPL] at hcut
        refine Calls.mono hcut ?_
        clear hcut
        rintro e w4 ⟨rfl, hw4⟩
        subst w4
        obtain ⟨d0, d1, d2, d3⟩ := hcells (unhide HZ3)
        obtain ⟨f0, f1, f2, f3⟩ := hfroz (unhide HZ3)
        by_cases hpre : pay.take 5 = [78, 84, 82, 89, 49]
        · simp only [List.length_cons, List.length_nil, Nat.zero_add, Nat.reduceAdd, hpre, if_true, decide_true, Nat.reduceSub]
          have hfl : (pay.drop 5).length = 25 := by rw [List.length_drop, unhide HPL]
          have HFP := hide (by
            have h9 := Rd.cutN (n := 5) (N := 30) (p := pay) (by rw [unhide HPL]; exact unhide HNW3) (by decide) (by rw [unhide HPL]; exact Nat.le_refl _)
            rw [List.take_of_length_le (by rw [List.length_drop, unhide HPL]; exact Nat.le_refl _)] at h9
            exact h9 : Rd W3 (.slice (some ⟨bq, oq + 5, none⟩) 25 (cv - 5)) (pay.drop 5))
          obtain ⟨m0, hm0⟩ : ∃ m, beL ((pay.drop 5).take 8) = m := ⟨_, rfl⟩
          obtain ⟨m1, hm1⟩ : ∃ m, beL ((pay.drop 13).take 8) = m := ⟨_, rfl⟩
          obtain ⟨m2, hm2⟩ : ∃ m, beL ((pay.drop 21).take 8) = m := ⟨_, rfl⟩
          obtain ⟨wz, hwz⟩ : ∃ m, pay.getD 29 0 = m := ⟨_, rfl⟩
          have hwl : wz < 256 := by
            rw [← hwz, List.getD_eq_getElem?_getD, List.getElem?_eq_getElem (by rw [unhide HPL]; decide)]
            exact (unhide HNW3).byte _ (List.getElem_mem _)
          have HC24 := hide (by
            obtain ⟨_, _, _, e9, _, _, _, _, _, hcl⟩ := unhide HFP
            cases e9
            obtain ⟨b9, o9, e9, hc⟩ := hcl (by decide)
            cases e9
            have h9 := hc 24 (by decide)
            rw [← hwz]
            have e9 : (pay.drop 5).getD 24 0 = pay.getD 29 0 := by simp [List.getD_eq_getElem?_getD]
            rw [e9] at h9
            exact h9 : W3.cell? ⟨bq, oq + 5 + 24, none⟩ = some (.int .u8 (wz : Int)))
          have hnum : ∀ w', Kept [] W3 w' → ∀ i : Nat, i < 3 → Calls Tryz.prog 76 #[.slice (some ⟨bq, oq + 5, none⟩) 25 (cv - 5), .int .i64 i] w' fun e w2 => e = .returned (.int .u64 (beL (((pay.drop 5).drop (i * 8)).take 8) : Nat)) ∧ w2 = w' := by
            intro w' k i hi
            have h9 := numberAt_any bq (oq + 5) (cv - 5) i (pay.drop 5) w' (by rw [hfl]; exact (unhide HFP).old k (by simp)) hi hfl
            rw [hfl] at h9
            exact h9
          have HHF2 := hide (unhide HHF)
          rw [hm0, hm1, hm2, hwz] at HHF2
          have Hm0 := hide (by rw [← hm0]; rfl : m0 = beL (((pay.drop 5).drop (0 * 8)).take 8))
          have Hm1 := hide (by rw [← hm1, List.drop_drop] : m1 = beL (((pay.drop 5).drop (1 * 8)).take 8))
          have Hm2 := hide (by rw [← hm2, List.drop_drop] : m2 = beL (((pay.drop 5).drop (2 * 8)).take 8))
          have HPH := hide (by unfold payH; rw [hm0, hwz, unhide HPL]; simp [hpre] : payH pl pay = decide (m0 = pl ∧ 1 ≤ wz ∧ wz ≤ 32))
          clear hm0 hm1 hm2 hwz hfl HHF
          go_upto_region 7 with fail
          refine wp_sh13 (by kernel_rfl) (by kernel_rfl) (by kernel_rfl) (by kernel_rfl) (by kernel_rfl) (by kernel_rfl) (by kernel_rfl) (by kernel_rfl) (by kernel_rfl) (by kernel_rfl) (by kernel_rfl) (by kernel_rfl) (by kernel_rfl) (by kernel_rfl) (by kernel_rfl) (by kernel_rfl) (by kernel_rfl) (by kernel_rfl) (by kernel_rfl) (by kernel_rfl) (by kernel_rfl) (by kernel_rfl) (by kernel_rfl) (by kernel_rfl) (by kernel_rfl) (by kernel_rfl) (by kernel_rfl) (by kernel_rfl) (by kernel_rfl) rfl rfl rfl rfl rfl (by simp) (by simp) (by simp) (by simp)
            (.slice (some ⟨bq, oq + 5, none⟩) 25 (cv - 5)) (.slice (some ⟨bq, oq + 5, none⟩) 25 (cv - 5)) (.slice (some ⟨bq, oq + 5, none⟩) 25 (cv - 5)) (.slice (some ⟨bq, oq + 5, none⟩) 25 (cv - 5)) (.pointer (some ⟨bq, oq + 5 + 24, none⟩)) (.int .u8 (wz : Int)) (.int .i64 (wz : Int)) _ _ _ _ _ _ _
            (fun w' => w'.cell? ⟨bq, oq + 5 + 24, none⟩ = some (.int .u8 (wz : Int)))
            (fun  w' => Kept [] W3 w') (fun u1 w' => u1 = .int .u64 (m0 : Int) ∧ Kept [] W3 w') (fun u11 w' => Kept [] W3 w' ∧ Ald W3 u11 #[.int .u64 0, .int .u64 0, .int .u64 0, .int .i64 0] w') (fun u1 u3 w' => u1 = .int .u64 (m0 : Int) ∧ u3 = .int .u64 (m1 : Int) ∧ Kept [] W3 w') (fun u1 u11 w' => u1 = .int .u64 (m0 : Int) ∧ Kept [] W3 w' ∧ Ald W3 u11 #[.int .u64 0, .int .u64 0, .int .u64 0, .int .i64 0] w') (fun u1 u3 u5 w' => u1 = .int .u64 (m0 : Int) ∧ u3 = .int .u64 (m1 : Int) ∧ u5 = .int .u64 (m2 : Int) ∧ Kept [] W3 w') (fun u1 u3 u11 w' => u1 = .int .u64 (m0 : Int) ∧ u3 = .int .u64 (m1 : Int) ∧ Kept [] W3 w' ∧ Ald W3 u11 #[.int .u64 0, .int .u64 0, .int .u64 0, .int .i64 0] w') (fun u1 u3 u5 u11 w' => u1 = .int .u64 (m0 : Int) ∧ u3 = .int .u64 (m1 : Int) ∧ u5 = .int .u64 (m2 : Int) ∧ Kept [] W3 w' ∧ Ald W3 u11 #[.int .u64 0, .int .u64 0, .int .u64 0, .int .i64 0] w') (fun u1 u3 u5 u11 u12 w' => u1 = .int .u64 (m0 : Int) ∧ u3 = .int .u64 (m1 : Int) ∧ u5 = .int .u64 (m2 : Int) ∧ Kept [] W3 w' ∧ Ald W3 u11 #[.int .u64 (m0 : Int), .int .u64 (m1 : Int), .int .u64 (m2 : Int), .int .i64 (wz : Int)] w')
            (fun u1 u3 u5 => .agg #[u1, u3, u5, .int .i64 (wz : Int)])
            (by simp only [Act.put, List.setIfInBounds_toArray, List.set_cons_zero, List.set_cons_succ]; rfl) (by exact Or.inl ⟨by rfl, fun W' hW' => by go_simp⟩)
            (by simp only [Act.put, List.setIfInBounds_toArray, List.set_cons_zero, List.set_cons_succ]; rfl) (by exact Or.inl ⟨by rfl, fun W' hW' => by go_simp⟩)
            (by simp only [Act.put, List.setIfInBounds_toArray, List.set_cons_zero, List.set_cons_succ]; rfl) (by exact Or.inl ⟨by rfl, fun W' hW' => by go_simp⟩)
            (by simp only [Act.put, List.setIfInBounds_toArray, List.set_cons_zero, List.set_cons_succ]; rfl) (by exact Or.inl ⟨by rfl, fun W' hW' => by go_simp⟩)
            (by simp only [Act.put, List.setIfInBounds_toArray, List.set_cons_zero, List.set_cons_succ]; rfl) (by exact Or.inl ⟨by rfl, fun W' hW' => by go_simp⟩)
            (by simp only [Act.put, List.setIfInBounds_toArray, List.set_cons_zero, List.set_cons_succ]; rfl) (by exact Or.inl ⟨by rfl, fun W' hW' => run_load1 5 _ rfl ⟨bq, oq + 5 + 24, none⟩ rfl W' _ .u8 Tryz.underlying5 hW'⟩)
            (by simp only [Act.put, List.setIfInBounds_toArray, List.set_cons_zero, List.set_cons_succ]; rfl) (by exact Or.inl ⟨by rfl, fun W' hW' => by go_simp; exact wrap_small hwl⟩)
            ((Kept.refl [] W3).drew)
            ⟨fun  w' h => (h).cell (unhide HC24) (by simp), fun u1 w' h => (h.2).cell (unhide HC24) (by simp), fun u11 w' h => (h.1).cell (unhide HC24) (by simp), fun u1 u3 w' h => (h.2.2).cell (unhide HC24) (by simp), fun u1 u11 w' h => (h.2.1).cell (unhide HC24) (by simp), fun u1 u3 u5 w' h => (h.2.2.2).cell (unhide HC24) (by simp), fun u1 u3 u11 w' h => (h.2.2.1).cell (unhide HC24) (by simp), fun u1 u3 u5 u11 w' h => (h.2.2.2.1).cell (unhide HC24) (by simp), fun u1 u3 u5 u11 u12 w' h => (h.2.2.2.1).cell (unhide HC24) (by simp)⟩
            (by
              rintro w' k K hK
              refine wp_callN rfl Tryz.call76 [.slice (some ⟨bq, oq + 5, none⟩) 25 (cv - 5), .int .i64 0] rfl (hnum w' k 0 (by decide)) ?_
              rintro e w2 ⟨rfl, rfl⟩
              exact ⟨_, rfl, hK _ _ (⟨by rw [← unhide Hm0], k⟩)⟩) (by
              rintro w' k K hK
              exact wp_allochead rfl (hK _ _ ⟨k.alloc _, ald_new k⟩)) (by
              rintro u1 w' ⟨rfl, k⟩ K hK
              refine wp_callN rfl Tryz.call76 [.slice (some ⟨bq, oq + 5, none⟩) 25 (cv - 5), .int .i64 1] rfl (hnum w' k 1 (by decide)) ?_
              rintro e w2 ⟨rfl, rfl⟩
              exact ⟨_, rfl, hK _ _ (⟨rfl, by rw [← unhide Hm1], k⟩)⟩) (by
              rintro u1 w' ⟨rfl, k⟩ K hK
              exact wp_allochead rfl (hK _ _ ⟨rfl, k.alloc _, ald_new k⟩)) (by
              rintro u11 w' ⟨k, al⟩ K hK
              refine wp_callN rfl Tryz.call76 [.slice (some ⟨bq, oq + 5, none⟩) 25 (cv - 5), .int .i64 0] rfl (hnum w' k 0 (by decide)) ?_
              rintro e w2 ⟨rfl, rfl⟩
              exact ⟨_, rfl, hK _ _ (⟨by rw [← unhide Hm0], k, al⟩)⟩) (by
              rintro u1 u3 w' ⟨rfl, rfl, k⟩ K hK
              refine wp_callN rfl Tryz.call76 [.slice (some ⟨bq, oq + 5, none⟩) 25 (cv - 5), .int .i64 2] rfl (hnum w' k 2 (by decide)) ?_
              rintro e w2 ⟨rfl, rfl⟩
              exact ⟨_, rfl, hK _ _ (⟨rfl, rfl, by rw [← unhide Hm2], k⟩)⟩) (by
              rintro u1 u3 w' ⟨rfl, rfl, k⟩ K hK
              exact wp_allochead rfl (hK _ _ ⟨rfl, rfl, k.alloc _, ald_new k⟩)) (by
              rintro u1 u11 w' ⟨rfl, k, al⟩ K hK
              refine wp_callN rfl Tryz.call76 [.slice (some ⟨bq, oq + 5, none⟩) 25 (cv - 5), .int .i64 1] rfl (hnum w' k 1 (by decide)) ?_
              rintro e w2 ⟨rfl, rfl⟩
              exact ⟨_, rfl, hK _ _ (⟨rfl, by rw [← unhide Hm1], k, al⟩)⟩) (by
              rintro u1 u3 u5 w' ⟨rfl, rfl, rfl, k⟩ K hK
              exact wp_allochead rfl (hK _ _ ⟨rfl, rfl, rfl, k.alloc _, ald_new k⟩)) (by
              rintro u1 u3 u11 w' ⟨rfl, rfl, k, al⟩ K hK
              refine wp_callN rfl Tryz.call76 [.slice (some ⟨bq, oq + 5, none⟩) 25 (cv - 5), .int .i64 2] rfl (hnum w' k 2 (by decide)) ?_
              rintro e w2 ⟨rfl, rfl⟩
              exact ⟨_, rfl, hK _ _ (⟨rfl, rfl, by rw [← unhide Hm2], k, al⟩)⟩)
            (by
              rintro u1 u3 u5 u11 w' ⟨rfl, rfl, rfl, k, g, rfl, hg, hh⟩ K hK
              simp only [Act.put, List.setIfInBounds_toArray, List.set_cons_zero, List.set_cons_succ] at hK ⊢
              have hk2 := hK undef _ ⟨trivial, trivial, trivial, Kept.setRow k (Or.inr hg) #[.int .u64 (m0 : Int), .int .u64 (m1 : Int), .int .u64 (m2 : Int), .int .i64 (wz : Int)], g, rfl, hg, setRow_heap _ _ _ _ _ _ hh⟩
              clear hK
              exact wp_store_row 32 (.tmp 10) (.tmp 47) rfl g #[.int .u64 (m0 : Int), .int .u64 (m1 : Int), .int .u64 (m2 : Int), .int .i64 (wz : Int)] rfl rfl 32 #[.int .u64 0, .int .u64 0, .int .u64 0, .int .i64 0] hh Tryz.size_head rfl (by simp [Value.oneCell']) hk2)
            (by rintro u1 u3 u5 w' ⟨rfl, rfl, rfl, k⟩; exact Or.inl ⟨by rfl, fun W' hW' => by go_simp⟩)
            (by rintro u1 u3 u5 u11 w' ⟨rfl, rfl, rfl, k, al⟩; exact Or.inl ⟨by rfl, fun W' hW' => by go_simp⟩)
            ?_
          rintro u1 u3 u5 u11 u12 w5 ⟨rfl, rfl, rfl, k5, g, rfl, hg, hh⟩
          simp only [Act.put, List.setIfInBounds_toArray, List.set_cons_zero, List.set_cons_succ]
          have HGK := hide (k5.heap (unhide HF3) (by simp))
          have HZ5 := hide (k5.heap (unhide HZ3) (by simp))
          have HK5 := hide ((unhide HKW3).trans k5 (by simp))
          have HG5 := hide hh
          have hgn : w.heap.size ≠ g := by
            have := (unhide HKW3).size; have := lt_of_block (unhide HZ3); omega
          have HGN := hide hgn
          clear k5 hh hgn hg d0 d1 d2 d3 f0 f1 f2 f3 hnum HK3 HR3 HZ3 HF3 HKW3 HNW3
          obtain ⟨d0, d1, d2, d3⟩ := hcells (unhide HZ5)
          obtain ⟨f0, f1, f2, f3⟩ := hfroz (unhide HZ5)
          obtain ⟨x0, x1, x2, x3⟩ := hcells (unhide HG5)
          have g0 : w5.cell? ⟨w1.heap.size, 0, none⟩ = some (.int .u64 (pl : Int)) := by rw [cell_of_row _ _ _ _ _ _ (unhide HGK)]; rfl
          by_cases hpm : m0 = pl
          · have hne : ((m0 : Int) != (pl : Int)) = false := by simp [hpm]
            go_wp2_with fail
            refine Calls.mono (isWidth_any (wz : Int) _) ?_
            rintro e w6 ⟨rfl, hw6⟩
            subst w6
            have HWD := hide (by unfold wideB; simp only [decide_eq_decide]; omega : wideB (wz : Int) = decide (1 ≤ wz ∧ wz ≤ 32))
            by_cases hwd : wideB (wz : Int) = true
            · rw [hwd]
              have HV := hide (unhide HYE _ (by rw [unhide HHF2, if_pos (by rw [unhide HPH]; rw [unhide HWD] at hwd; simpa [hpm] using hwd)]))
              go_wp2
              refine bodyPost_ret (v := .tuple #[.agg #[.int .u64 (pl : Int), .int .u64 (m1 : Int), .int .u64 (m2 : Int), .int .i64 (wz : Int)], .int .i64 48, .bool true]) ?_ rfl ⟨by rw [(unhide HV).1, (unhide HV).2.1, (unhide HV).2.2, hpm]; rfl, put4_kept (unhide HK5) w.heap.size (Nat.le_refl _) _ _ _ _⟩
              exact results_cell_tmp2 rfl _ _ w.heap.size _ #[.int .u64 (pl : Int), .int .u64 (m1 : Int), .int .u64 (m2 : Int), .int .i64 (wz : Int)] (0, 0) _ rfl (put4_heap (unhide HZ5) _ _ _ _) Tryz.underlying32 rfl Tryz.size_head _ _ rfl rfl
            · rw [Bool.not_eq_true] at hwd
              rw [hwd]
              have HV := hide (unhide HNO (by rw [unhide HHF2, if_neg (by rw [unhide HPH]; rw [unhide HWD] at hwd; simpa [hpm] using hwd)]))
              go_wp2
              refine bodyPost_ret (v := .tuple #[.agg #[.int .u64 0, .int .u64 0, .int .u64 0, .int .i64 0], .int .i64 0, .bool false]) ?_ rfl ⟨by rw [(unhide HV).1, (unhide HV).2.1, (unhide HV).2.2]; rfl, put4_kept (unhide HK5) w.heap.size (Nat.le_refl _) _ _ _ _⟩
              exact results_cell_tmp2 rfl _ _ w.heap.size _ #[.int .u64 0, .int .u64 0, .int .u64 0, .int .i64 0] (0, 0) _ rfl (put4_heap (unhide HZ5) _ _ _ _) Tryz.underlying32 rfl Tryz.size_head _ _ rfl rfl
          · have hne : ((m0 : Int) != (pl : Int)) = true := by rw [bne_iff_ne]; omega
            have HV := hide (unhide HNO (by rw [unhide HHF2, if_neg (by rw [unhide HPH]; simp [hpm])]))
            go_wp2
            refine bodyPost_ret (v := .tuple #[.agg #[.int .u64 0, .int .u64 0, .int .u64 0, .int .i64 0], .int .i64 0, .bool false]) ?_ rfl ⟨by rw [(unhide HV).1, (unhide HV).2.1, (unhide HV).2.2]; rfl, put4_kept (unhide HK5) w.heap.size (Nat.le_refl _) _ _ _ _⟩
            exact results_cell_tmp2 rfl _ _ w.heap.size _ #[.int .u64 0, .int .u64 0, .int .u64 0, .int .i64 0] (0, 0) _ rfl (put4_heap (unhide HZ5) _ _ _ _) Tryz.underlying32 rfl Tryz.size_head _ _ rfl rfl
        · simp only [List.length_cons, List.length_nil, Nat.zero_add, Nat.reduceAdd, hpre, if_false, decide_false]
          have HV := hide (unhide HNO (by rw [unhide HHF, if_neg]; simp [payH, hpre]))
          go_wp2
          refine bodyPost_ret (v := .tuple #[.agg #[.int .u64 0, .int .u64 0, .int .u64 0, .int .i64 0], .int .i64 0, .bool false]) ?_ rfl ⟨by rw [(unhide HV).1, (unhide HV).2.1, (unhide HV).2.2]; rfl, put4_kept (unhide HKW3) w.heap.size (Nat.le_refl _) _ _ _ _⟩
          exact results_cell_tmp2 rfl _ _ w.heap.size _ #[.int .u64 0, .int .u64 0, .int .u64 0, .int .i64 0] (0, 0) _ rfl (put4_heap (unhide HZ3) _ _ _ _) Tryz.underlying32 rfl Tryz.size_head _ _ rfl rfl
      · have hl30' : ((pay.length : Int) != 30) = true := by rw [bne_iff_ne]; omega
        have HV := hide (unhide HNO (by rw [unhide HHF, if_neg]; simp [payH, hl30]))
        rw [← unhide HW1] at d0 d1 d2 d3 f0 f1 f2 f3 g0 g1
        go_wp2
        rw [unhide HW1]
        refine bodyPost_ret (v := .tuple #[.agg #[.int .u64 0, .int .u64 0, .int .u64 0, .int .i64 0], .int .i64 0, .bool false]) ?_ rfl ⟨by rw [(unhide HV).1, (unhide HV).2.1, (unhide HV).2.2]; rfl, put4_kept (unhide HKW) w.heap.size (Nat.le_refl _) _ _ _ _⟩
        exact results_cell_tmp2 rfl _ _ w.heap.size _ #[.int .u64 0, .int .u64 0, .int .u64 0, .int .i64 0] (0, 0) _ rfl (put4_heap (unhide HZW) _ _ _ _) Tryz.underlying32 rfl Tryz.size_head _ _ rfl rfl
  · have hkd' : (((nextF p 0).kind : Int) != 1) = true := by rw [bne_iff_ne]; omega
    have HV := hide (unhide HNO (unhide HNK hkd))
    clear hcase
    rw [← unhide HW1] at d0 d1 d2 d3 f0 f1 f2 f3 g0 g1
    go_wp2
    rw [unhide HW1]
    refine bodyPost_ret (v := .tuple #[.agg #[.int .u64 0, .int .u64 0, .int .u64 0, .int .i64 0], .int .i64 0, .bool false]) ?_ rfl ⟨by rw [(unhide HV).1, (unhide HV).2.1, (unhide HV).2.2]; rfl, put4_kept (unhide HKW) w.heap.size (Nat.le_refl _) _ _ _ _⟩
    exact results_cell_tmp2 rfl _ _ w.heap.size _ #[.int .u64 0, .int .u64 0, .int .u64 0, .int .i64 0] (0, 0) _ rfl (put4_heap (unhide HZW) _ _ _ _) Tryz.underlying32 rfl Tryz.size_head _ _ rfl rfl
end Go.Proofs.YtckkalmhekfnhaaGreatDoor
