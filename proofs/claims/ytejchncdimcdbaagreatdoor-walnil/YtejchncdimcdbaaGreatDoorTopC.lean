import Derived.Test.YtejchncdimcdbaaGreatDoorTopA
import Derived.Test.YtejchncdimcdbaaGreatDoorTopB
import Derived.Deep.RegionHeld3
import Derived.Test.YtejchncdimcdbaaGreatDoorQTail
import Derived.Deep.Cut
namespace Go.Proofs.YtejchncdimcdbaaGreatDoor
open Go.RowKit Go.BigFrame
set_option linter.unusedVariables false
set_option linter.unusedSimpArgs false

theorem results_cell_tmp2 {P : Program} {fn : Func} {p q r : Tmp} {ty : TypeId} (h : fn.results = #[.cell p ty, .tmp q, .tmp r]) (tmps : Array Value) (w : World) (g : Nat) (t : TypeId) (cs : Array Value) (fr : Nat × Nat) (d : TypeDesc)
    (hp : tmps.getD p undef = .pointer (some ⟨g, 0, none⟩)) (hg : w.heap[g]? = some (.cells cs t fr))
    (hu : P.underlying ty = some d) (hd : (match d with | .struct _ | .array _ _ => true | _ => false) = true) (hi : (P.info? ty).map (·.size) = some cs.size) (v u : Value) (hq : tmps.getD q undef = v) (hr : tmps.getD r undef = u) :
    (results fn tmps).run P w = .ok (.tuple #[.agg cs, v, u]) w := by
  have hp' : tmps[p]?.getD undef = .pointer (some ⟨g, 0, none⟩) := by simpa using hp
  have hq' : tmps[q]?.getD undef = v := by simpa using hq
  have hr' : tmps[r]?.getD undef = u := by simpa using hr
  simp [results, h, hp', hq', hr', asAddr, run_loadVar_row w g t ty cs fr d hg hu hd hi]
/-- What stands in p at the place z: place, payload, the place behind it, the kind. -/
structure NxR where
  pl : Nat
  pay : List Nat
  next : Int
  kind : Nat
def nextF (p : List Nat) (z : Int) : NxR :=
  if z = p.length then ⟨0, [], z, 0⟩ else if z < 0 ∨ (p.length : Int) < z then ⟨0, [], z, 2⟩ else
  match firstF (p.drop z.toNat) with
  | none => ⟨0, [], z, 2⟩
  | some x => ⟨x.1, x.2, z + 18 + x.2.length, 1⟩
theorem Rd.dropN {w : World} {b off cap : Nat} {p : List Nat} (h : Rd w (.slice (some ⟨b, off, none⟩) p.length cap) p) (n : Nat) (hn : n ≤ p.length) : Rd w (.slice (some ⟨b, off + n, none⟩) (p.length - n) (cap - n)) (p.drop n) := by
  obtain ⟨ao', len', cap', he, _, h2, ⟨h3, h3'⟩, h4, h5, h6⟩ := h
  cases he
  refine ⟨_, _, _, rfl, by rw [List.length_drop], by omega, ⟨by omega, by omega⟩, fun h => by simp at h, fun x hx => h5 x (List.mem_of_mem_drop hx), fun hp => ?_⟩
  obtain ⟨b', off', e, hc⟩ := h6 (by omega)
  cases e
  refine ⟨b, off + n, rfl, fun i hi => ?_⟩
  have := hc (n + i) (by omega)
  rw [Nat.add_assoc, this, List.getD_eq_getElem?_getD, List.getD_eq_getElem?_getD, List.getElem?_drop]
set_option maxRecDepth 100000 in
set_option maxHeartbeats 2000000 in
theorem next_any (v : Value) (p : List Nat) (z : Int) (w : World) (h : Rd w v p) (hz : -9223372036854775808 ≤ z ∧ z ≤ 9223372036854775807) :
    Calls Tryz.prog 113 #[v, .int .i64 z] w fun e w' => ∃ v', e = .returned (.tuple #[.agg #[.int .u64 (nextF p z).pl, v'], .int .i64 (nextF p z).next, .int .i64 (nextF p z).kind]) ∧ NewP w w' v' (nextF p z).pay ∧ Kept [] w w' := by
  have H := hide h
  obtain ⟨a1, n1, c1, rfl, hn1, hc1, ⟨hc2, hc3⟩, _, _, hcell⟩ := id h
  subst hn1
  clear h
  have HZ0 := hide (heap_alloc_new w (.cells #[.int .u64 0, .slice none 0 0] 187))
  have HK0 := hide ((Kept.refl [] w).alloc (.cells #[.int .u64 0, .slice none 0 0] 187))
  have HQ0 := hide (put2_heap (unhide HZ0) (.int .u64 0) (.slice none 0 0))
  have HKQ := hide (put2_kept (unhide HK0) w.heap.size (Nat.le_refl _) (.int .u64 0) (.slice none 0 0))
  by_cases h1 : z = p.length
  · have hN : nextF p z = ⟨0, [], z, 0⟩ := by unfold nextF; rw [if_pos h1]
    rw [hN]
    clear hN hcell
    subst h1
    go_enter Tryz.func113, Tryz.ntmps113
    go_wp2
    refine bodyPost_ret (v := .tuple #[.agg #[.int .u64 0, .slice none 0 0], .int .i64 p.length, .int .i64 0]) ?_ rfl ⟨_, rfl, NewP.nil _ _, unhide HK0⟩
    exact results_cell_tmp2 rfl _ _ w.heap.size _ #[.int .u64 0, .slice none 0 0] (0, 0) _ rfl (unhide HZ0) Tryz.underlying187 rfl Tryz.size_frame _ _ rfl rfl
  have h1' : (z == (p.length : Int)) = false := by rw [beq_eq_false_iff_ne]; exact h1
  by_cases h2 : z < 0
  · have hN : nextF p z = ⟨0, [], z, 2⟩ := by unfold nextF; rw [if_neg h1, if_pos (Or.inl h2)]
    rw [hN]
    clear hN hcell
    go_enter Tryz.func113, Tryz.ntmps113
    go_wp2
    refine bodyPost_ret (v := .tuple #[.agg #[.int .u64 0, .slice none 0 0], .int .i64 z, .int .i64 2]) ?_ rfl ⟨_, rfl, NewP.nil _ _, unhide HK0⟩
    exact results_cell_tmp2 rfl _ _ w.heap.size _ #[.int .u64 0, .slice none 0 0] (0, 0) _ rfl (unhide HZ0) Tryz.underlying187 rfl Tryz.size_frame _ _ rfl rfl
  by_cases h3 : (p.length : Int) < z
  · have hN : nextF p z = ⟨0, [], z, 2⟩ := by unfold nextF; rw [if_neg h1, if_pos (Or.inr h3)]
    rw [hN]
    clear hN hcell
    go_enter Tryz.func113, Tryz.ntmps113
    go_wp2
    refine bodyPost_ret (v := .tuple #[.agg #[.int .u64 0, .slice none 0 0], .int .i64 z, .int .i64 2]) ?_ rfl ⟨_, rfl, NewP.nil _ _, unhide HK0⟩
    exact results_cell_tmp2 rfl _ _ w.heap.size _ #[.int .u64 0, .slice none 0 0] (0, 0) _ rfl (unhide HZ0) Tryz.underlying187 rfl Tryz.size_frame _ _ rfl rfl
  obtain ⟨n, rfl⟩ : ∃ n : Nat, z = n := ⟨z.toNat, by omega⟩
  have hn : n < p.length := by omega
  obtain ⟨bb, off, rfl, hcl⟩ := hcell (by omega)
  clear hcell hcl
  have HD := hide ((unhide H).dropN n (by omega))
  have HNF := hide (by unfold nextF; rw [if_neg h1, if_neg (by omega), Int.toNat_natCast] : nextF p n = match firstF (p.drop n) with
    | none => ⟨0, [], n, 2⟩
    | some x => ⟨x.1, x.2, (n : Int) + 18 + x.2.length, 1⟩)
  cases hf : firstF (p.drop n) with
  | none =>
    rw [hf] at HNF
    rw [unhide HNF]
    have HF := hide hf
    clear hf
    have h3' : ¬ (p.length : Int) < n := by omega
    go_enter Tryz.func113, Tryz.ntmps113
    go_wp2_with fail
    refine Calls.mono (first_any _ (p.drop n) _ ((unhide HD).old (unhide HK0) (by simp))) ?_
    rintro e w1 ⟨v1, rfl, n1, k1⟩
    rw [unhide HF]
    have HZ1 := hide (k1.heap (unhide HZ0) (by simp))
    have HK1 := hide ((unhide HK0).trans k1 (by simp))
    obtain ⟨a2, n2, c2, hv1, _⟩ := id n1.1
    subst hv1
    clear k1 n1
    have k2 := (Kept.refl [] w1).alloc (.cells #[.int .u64 (fstPl (p.drop n) : Int), .slice a2 n2 c2] 187)
    have HZ2 := hide (k2.heap (unhide HZ1) (by simp))
    have HK2 := hide ((unhide HK1).alloc (.cells #[.int .u64 (fstPl (p.drop n) : Int), .slice a2 n2 c2] 187))
    have d0 : (w1.alloc (.cells #[.int .u64 (fstPl (p.drop n) : Int), .slice a2 n2 c2] 187)).cell? ⟨w.heap.size, 0, none⟩ = some (.int .u64 0) := by rw [cell_of_row _ _ _ _ _ _ (unhide HZ2)]; rfl
    have d1 : (w1.alloc (.cells #[.int .u64 (fstPl (p.drop n) : Int), .slice a2 n2 c2] 187)).cell? ⟨w.heap.size, 1, none⟩ = some (.slice none 0 0) := by rw [cell_of_row _ _ _ _ _ _ (unhide HZ2)]; rfl
    have f0 : (w1.alloc (.cells #[.int .u64 (fstPl (p.drop n) : Int), .slice a2 n2 c2] 187)).frozen? ⟨w.heap.size, 0, none⟩ = false := frozen_of_row _ _ _ _ _ (unhide HZ2)
    have f1 : (w1.alloc (.cells #[.int .u64 (fstPl (p.drop n) : Int), .slice a2 n2 c2] 187)).frozen? ⟨w.heap.size, 1, none⟩ = false := frozen_of_row _ _ _ _ _ (unhide HZ2)
    clear k2
    go_wp2
    refine bodyPost_ret (v := .tuple #[.agg #[.int .u64 0, .slice none 0 0], .int .i64 n, .int .i64 2]) ?_ rfl ⟨_, rfl, NewP.nil _ _, put2_kept (unhide HK2) w.heap.size (Nat.le_refl _) (.int .u64 0) (.slice none 0 0)⟩
    exact results_cell_tmp2 rfl _ _ w.heap.size _ #[.int .u64 0, .slice none 0 0] (0, 0) _ rfl (put2_heap (unhide HZ2) (.int .u64 0) (.slice none 0 0)) Tryz.underlying187 rfl Tryz.size_frame _ _ rfl rfl
  | some x =>
    obtain ⟨pl, pay⟩ := x
    rw [hf] at HNF
    rw [unhide HNF]
    have hfm := firstF_form hf (fun x hx => (unhide H).byte x (List.mem_of_mem_drop hx))
    have hlen : n + 18 + pay.length ≤ p.length := by
      have := congrArg List.length hfm.2.2.2.2
      rw [List.length_append, frB_len, List.length_drop] at this
      omega
    have HF := hide hf
    have e1 : fstPl (p.drop n) = pl := by simp [fstPl, hf]
    have e2 : fstPay (p.drop n) = pay := by simp [fstPay, hf]
    clear hf
    have h3' : ¬ (p.length : Int) < n := by omega
    go_enter Tryz.func113, Tryz.ntmps113
    go_wp2_with fail
    refine Calls.mono (first_any _ (p.drop n) _ ((unhide HD).old (unhide HK0) (by simp))) ?_
    rintro e w1 ⟨v1, rfl, n1, k1⟩
    rw [e2] at n1
    rw [unhide HF, e1]
    have HZ1 := hide (k1.heap (unhide HZ0) (by simp))
    have HK1 := hide ((unhide HK0).trans k1 (by simp))
    have HN1 := hide n1
    obtain ⟨a2, n2, c2, hv1, hn2, _⟩ := id n1.1
    subst hv1
    subst hn2
    clear k1 n1 e1 e2 hfm
    have k2 := (Kept.refl [] w1).alloc (.cells #[.int .u64 (pl : Int), .slice a2 pay.length c2] 187)
    have HZ2 := hide (k2.heap (unhide HZ1) (by simp))
    have HK2 := hide ((unhide HK1).alloc (.cells #[.int .u64 (pl : Int), .slice a2 pay.length c2] 187))
    have d0 : (w1.alloc (.cells #[.int .u64 (pl : Int), .slice a2 pay.length c2] 187)).cell? ⟨w.heap.size, 0, none⟩ = some (.int .u64 0) := by rw [cell_of_row _ _ _ _ _ _ (unhide HZ2)]; rfl
    have d1 : (w1.alloc (.cells #[.int .u64 (pl : Int), .slice a2 pay.length c2] 187)).cell? ⟨w.heap.size, 1, none⟩ = some (.slice none 0 0) := by rw [cell_of_row _ _ _ _ _ _ (unhide HZ2)]; rfl
    have f0 : (w1.alloc (.cells #[.int .u64 (pl : Int), .slice a2 pay.length c2] 187)).frozen? ⟨w.heap.size, 0, none⟩ = false := frozen_of_row _ _ _ _ _ (unhide HZ2)
    have f1 : (w1.alloc (.cells #[.int .u64 (pl : Int), .slice a2 pay.length c2] 187)).frozen? ⟨w.heap.size, 1, none⟩ = false := frozen_of_row _ _ _ _ _ (unhide HZ2)
    clear k2
    go_wp2
    obtain ⟨W, hW⟩ : ∃ W, w1.alloc (.cells #[.int .u64 (pl : Int), .slice a2 pay.length c2] 187) = W := ⟨_, rfl⟩
    have HC := hide (heap_alloc_new w1 (.cells #[.int .u64 (pl : Int), .slice a2 pay.length c2] 187))
    have hlt1 : w.heap.size < w1.heap.size := lt_of_block (unhide HZ1)
    have HNW := hide ((unhide HN1).1.old ((Kept.refl [] w1).alloc (.cells #[.int .u64 (pl : Int), .slice a2 pay.length c2] 187)) (by simp))
    rw [hW] at HC d0 d1 f0 f1 HZ2 HK2 HNW ⊢
    clear hW
    have e0 : W.cell? ⟨w1.heap.size, 0, none⟩ = some (.int .u64 pl) := by rw [cell_of_row _ _ _ _ _ _ (unhide HC)]; rfl
    have e1 : W.cell? ⟨w1.heap.size, 1, none⟩ = some (.slice a2 pay.length c2) := by rw [cell_of_row _ _ _ _ _ _ (unhide HC)]; rfl
    have hne : w.heap.size ≠ w1.heap.size := by omega
    have HB1 := hide (fun x hx => by have h9 := (unhide HN1).2 x hx; have h8 : (w.alloc (.cells #[.int .u64 0, .slice none 0 0] 187)).heap.size = w.heap.size + 1 := by simp
                                     omega : ∀ x ∈ blk (.slice a2 pay.length c2), w.heap.size + 1 ≤ x)
    have HRQ := hide ((unhide HNW).kept (put2_kept' W w.heap.size (.int .u64 pl) (.slice a2 pay.length c2)) (by
      intro x hx hm
      have h9 := unhide HB1 x hx
      have h8 : x = w.heap.size := by simpa using hm
      omega))
    go_region_held3 (fun w' => w'.cell? ⟨w1.heap.size, 0, none⟩ = some (.int .u64 pl) ∧ w'.cell? ⟨w1.heap.size, 1, none⟩ = some (.slice a2 pay.length c2)) (go_keep) (fail)
    have hww : IntKind.i64.wrap (IntKind.i64.wrap ((n : Int) + 18) + pay.length) = (n : Int) + 18 + pay.length := by rw [IntKind.wrap_i64, IntKind.wrap_i64]; omega
    all_goals go_wp2
    all_goals
      refine bodyPost_ret (v := .tuple #[.agg #[.int .u64 pl, .slice a2 pay.length c2], .int .i64 ((n : Int) + 18 + pay.length), .int .i64 1]) ?_ rfl ⟨.slice a2 pay.length c2, rfl, ⟨unhide HRQ, fun x hx => by have h9 := unhide HB1 x hx; omega⟩, (put2_kept (unhide HK2) w.heap.size (Nat.le_refl _) (.int .u64 pl) (.slice a2 pay.length c2)).drew⟩
      refine results_cell_tmp2 rfl _ _ w.heap.size 187 #[.int .u64 pl, .slice a2 pay.length c2] (0, 0) _ rfl (by exact put2_heap (unhide HZ2) (.int .u64 pl) (.slice a2 pay.length c2)) Tryz.underlying187 rfl Tryz.size_frame _ _ ?_ rfl
      simp [hww]
end Go.Proofs.YtejchncdimcdbaaGreatDoor
namespace Go.Proofs.YtejchncdimcdbaaGreatDoor
open Go.RowKit Go.BigFrame
set_option linter.unusedVariables false
set_option linter.unusedSimpArgs false

end Go.Proofs.YtejchncdimcdbaaGreatDoor
namespace Go.Proofs.YtejchncdimcdbaaGreatDoor
open Go.RowKit Go.BigFrame
set_option linter.unusedVariables false
set_option linter.unusedSimpArgs false

theorem nextF_cases (p : List Nat) (z : Int) (hb : ∀ x ∈ p, x < 256) :
    (z = p.length ∧ nextF p z = ⟨0, [], z, 0⟩) ∨ (z ≠ p.length ∧ nextF p z = ⟨0, [], z, 2⟩) ∨
    ∃ (n pl : Nat) (pay : List Nat), z = n ∧ nextF p z = ⟨pl, pay, ((n + 18 + pay.length : Nat) : Int), 1⟩ ∧ pl < 18446744073709551616 ∧ 1 ≤ pay.length ∧ pay.length ≤ 65535 ∧ (∀ x ∈ pay, x < 256) ∧ n + 18 + pay.length ≤ p.length ∧ (p.drop n).take (18 + pay.length) = frB pl pay ∧ firstF (p.drop n) = some (pl, pay) := by
  by_cases h1 : z = p.length
  · exact Or.inl ⟨h1, by unfold nextF; rw [if_pos h1]⟩
  refine Or.inr ?_
  by_cases h2 : z < 0 ∨ (p.length : Int) < z
  · exact Or.inl ⟨h1, by unfold nextF; rw [if_neg h1, if_pos h2]⟩
  obtain ⟨n, rfl⟩ : ∃ n : Nat, z = n := ⟨z.toNat, by omega⟩
  have hN : nextF p n = match firstF (p.drop n) with
    | none => ⟨0, [], n, 2⟩
    | some x => ⟨x.1, x.2, (n : Int) + 18 + x.2.length, 1⟩ := by
    unfold nextF; rw [if_neg h1, if_neg h2, Int.toNat_natCast]; try (cases firstF (p.drop n) <;> rfl)
  cases hf : firstF (p.drop n) with
  | none => exact Or.inl ⟨h1, by rw [hN, hf]⟩
  | some x =>
    obtain ⟨pl, pay⟩ := x
    have hfm := firstF_form hf (fun x hx => hb x (List.mem_of_mem_drop hx))
    have hlen : n + 18 + pay.length ≤ p.length := by
      have := congrArg List.length hfm.2.2.2.2
      rw [List.length_append, frB_len, List.length_drop] at this
      omega
    refine Or.inr ⟨n, pl, pay, rfl, ?_, hfm.1, hfm.2.1, hfm.2.2.1, hfm.2.2.2.1, hlen, ?_, hf⟩
    · rw [hN, hf]; simp
    · conv => lhs; rw [hfm.2.2.2.2]
      rw [List.take_append_of_le_length (by rw [frB_len]; omega), List.take_of_length_le (by rw [frB_len]; omega)]
theorem Rd.cutN {w : World} {b off cap : Nat} {p : List Nat} (h : Rd w (.slice (some ⟨b, off, none⟩) p.length cap) p) (n N : Nat) (hn : n ≤ N) (hN : N ≤ p.length) : Rd w (.slice (some ⟨b, off + n, none⟩) (N - n) (cap - n)) ((p.drop n).take (N - n)) := by
  obtain ⟨ao', len', cap', he, _, h2, ⟨h3, h3'⟩, h4, h5, h6⟩ := h
  cases he
  refine ⟨_, _, _, rfl, by rw [List.length_take, List.length_drop]; omega, by omega, ⟨by omega, by omega⟩, fun h => by simp at h, fun x hx => h5 x (List.mem_of_mem_drop (List.mem_of_mem_take hx)), fun hp => ?_⟩
  obtain ⟨b', off', e, hc⟩ := h6 (by omega)
  cases e
  refine ⟨b, off + n, rfl, fun i hi => ?_⟩
  have := hc (n + i) (by omega)
  rw [Nat.add_assoc, this, List.getD_eq_getElem?_getD, List.getD_eq_getElem?_getD, List.getElem?_take, if_pos hi, List.getElem?_drop]
theorem encE_good {p : List Nat} (h1 : 1 ≤ p.length) (h2 : p.length ≤ 65535) : encE p = 0 := by unfold encE; rw [if_neg (by omega), if_neg (by omega)]
theorem encB_good {pl : Nat} {p : List Nat} (h1 : 1 ≤ p.length) (h2 : p.length ≤ 65535) : encB pl p = frB pl p := by unfold encB; rw [encE_good h1 h2]; rfl
end Go.Proofs.YtejchncdimcdbaaGreatDoor
namespace Go.Proofs.YtejchncdimcdbaaGreatDoor
open Go.RowKit Go.BigFrame
set_option linter.unusedVariables false
set_option linter.unusedSimpArgs false

set_option maxRecDepth 100000 in
set_option maxHeartbeats 2000000 in
theorem bequal_any (u v : Value) (p q : List Nat) (w : World) (hu : Rd w u p) (hv : Rd w v q) :
    Calls Tryz.prog 213 #[u, v] w fun e w' => e = .returned (.bool (decide (p = q))) ∧ w' = w := by
  have hu5 : Tryz.prog.underlying 5 = some (.int .u8) := by kernel_rfl
  have hu9 : Tryz.prog.underlying 9 = some .string := by kernel_rfl
  have c1 := conv_any u p w hu hu5 hu9
  have c2 := conv_any v q w hv hu5 hu9
  have hd : ((strOf p).toList == (strOf q).toList) = decide (p = q) := by
    rw [ba_toList, ba_toList]
    by_cases h : p = q
    · subst h; simp
    · have h2 : ¬ (strOf p).data.toList = (strOf q).data.toList := fun e => h (strOf_inj hu.byte hv.byte (by
        have e2 := congrArg List.toArray e
        simp only [Array.toArray_toList] at e2
        cases hp : strOf p; cases hq : strOf q
        rw [hp, hq] at e2
        simp only at e2
        rw [e2]))
      rw [decide_eq_false h]
      exact beq_eq_false_iff_ne.2 h2
  have Hd := hide hd
  generalize strOf p = s1 at *
  generalize strOf q = s2 at *
  clear hu hv hu5 hu9 hd
  go_enter Tryz.func213, Tryz.ntmps213
  go_wp2
  go_ret
  exact ⟨by rw [unhide Hd]; rfl, rfl⟩
set_option maxRecDepth 100000 in
set_option maxHeartbeats 1000000 in
theorem bhasP_any (u v : Value) (p q : List Nat) (w : World) (hu : Rd w u p) (hv : Rd w v q) (hl : q.length ≤ p.length) :
    Calls Tryz.prog 161 #[u, v] w fun e w' => e = .returned (.bool (decide (p.take q.length = q))) ∧ w' = w := by
  have HU := hide hu
  have HV := hide hv
  obtain ⟨a1, n1, c1, rfl, hn1, hc1, ⟨hc2, hc3⟩, _⟩ := id hu
  obtain ⟨a2, n2, c2, rfl, hn2, _⟩ := id hv
  subst hn1
  subst hn2
  have hl' : (q.length : Int) ≤ p.length := by omega
  have hc9 : (q.length : Int) ≤ c1 := by omega
  have HC := hide ((unhide HU).take0 hl)
  clear hu hv
  go_enter Tryz.func161, Tryz.ntmps161
  go_wp2_with fail
  refine Calls.mono (bequal_any _ _ (p.take q.length) q w (unhide HC) (unhide HV)) ?_
  rintro e w1 ⟨rfl, rfl⟩
  go_wp2
  go_ret
  exact ⟨rfl, rfl⟩
set_option maxRecDepth 100000 in
set_option maxHeartbeats 1000000 in
theorem cutP_any (b off cap : Nat) (v : Value) (p q : List Nat) (w : World) (hu : Rd w (.slice (some ⟨b, off, none⟩) p.length cap) p) (hv : Rd w v q) (hlt : q.length < p.length) :
    Calls Tryz.prog 114 #[.slice (some ⟨b, off, none⟩) p.length cap, v] w fun e w' => e = .returned (.tuple #[if p.take q.length = q then .slice (some ⟨b, off + q.length, none⟩) (p.length - q.length) (cap - q.length) else .slice (some ⟨b, off, none⟩) p.length cap, .bool (decide (p.take q.length = q))]) ∧ w' = w := by
  have HU := hide hu
  have HV := hide hv
  obtain ⟨_, _, _, he, _, hc1, ⟨hc2, hc3⟩, _⟩ := id hu
  cases he
  obtain ⟨a2, n2, c2, rfl, hn2, _⟩ := id hv
  subst hn2
  have hl : q.length ≤ p.length := by omega
  have hl' : (q.length : Int) ≤ p.length := by omega
  have hcq : ¬ cap = q.length := by omega
  have hc9 : (q.length : Int) ≤ cap := by omega
  clear hu hv
  by_cases he : p.take q.length = q
  · rw [if_pos he, decide_eq_true he]
    have HE := hide (decide_eq_true he)
    clear he
    go_enter Tryz.func114, Tryz.ntmps114
    go_wp2_with fail
    refine Calls.mono (bhasP_any _ _ p q w (unhide HU) (unhide HV) hl) ?_
    rintro e w1 ⟨rfl, rfl⟩
    rw [unhide HE]
    go_wp2
    go_ret2
    exact ⟨by simp, rfl⟩
  · rw [if_neg he, decide_eq_false he]
    have HE := hide (decide_eq_false he)
    clear he
    go_enter Tryz.func114, Tryz.ntmps114
    go_wp2_with fail
    refine Calls.mono (bhasP_any _ _ p q w (unhide HU) (unhide HV) hl) ?_
    rintro e w1 ⟨rfl, rfl⟩
    rw [unhide HE]
    go_wp2
    go_ret2
    exact ⟨by simp, rfl⟩
set_option maxRecDepth 100000 in
set_option maxHeartbeats 2000000 in
theorem numberAt_any (b off cap i : Nat) (p : List Nat) (w : World) (hu : Rd w (.slice (some ⟨b, off, none⟩) p.length cap) p) (hi : i < 3) (hl : p.length = 25) :
    Calls Tryz.prog 115 #[.slice (some ⟨b, off, none⟩) p.length cap, .int .i64 i] w fun e w' => e = .returned (.int .u64 (beL ((p.drop (i * 8)).take 8))) ∧ w' = w := by
  obtain ⟨_, _, _, he, _, hc1, ⟨hc2, hc3⟩, _, hby, hcl⟩ := id hu
  cases he
  obtain ⟨b9, o9, e9, hcell⟩ := hcl (by omega)
  cases e9
  obtain ⟨q, hq⟩ : ∃ q, (p.drop (i * 8)).take 8 = q := ⟨_, rfl⟩
  have hql : q.length = 8 := by rw [← hq, List.length_take, List.length_drop]; omega
  have HC := hide (fun k (hk : k < 8) => by
    have h9 := hcell (i * 8 + k) (by omega)
    have e9 : p.getD (i * 8 + k) 0 = q.getD k 0 := by
      rw [← hq, List.getD_eq_getElem?_getD, List.getD_eq_getElem?_getD, List.getElem?_take, if_pos hk, List.getElem?_drop]
    rw [e9] at h9
    exact h9 : ∀ k, k < 8 → w.cell? ⟨b, off + (i * 8 + k), none⟩ = some (u8 (q.getD k 0)))
  have HB := hide (fun k (hk : k < 8) => by
    have hm : ∀ x ∈ q, x < 256 := fun x hx => by rw [← hq] at hx; exact hby _ (List.mem_of_mem_drop (List.mem_of_mem_take hx))
    rw [List.getD_eq_getElem?_getD, List.getElem?_eq_getElem (by omega)]
    exact hm _ (List.getElem_mem _) : ∀ k, k < 8 → q.getD k 0 < 256)
  have HQL := hide hql
  rw [hq]
  rw [hl] at hc1 ⊢
  clear hu hby hcl hcell hq hql
  have hc4 : (25 : Int) ≤ cap := by omega
  have hi3 : i = 0 ∨ i = 1 ∨ i = 2 := by omega
  clear hi
  rcases hi3 with rfl | rfl | rfl
  all_goals
    have hc5 : ¬ cap = 8 := by omega
    have hc6 : ¬ cap = 16 := by omega
    have hc7 : ¬ cap = 0 := by omega
    go_enter Tryz.func115, Tryz.ntmps115
    go_wp2_with fail
    go_loopw [5, 16] (fun t5 t16 wr => ∃ k : Nat, k ≤ 8 ∧ t16 = .int .i64 k ∧ t5 = .int .u64 (beL (q.take k)) ∧ wr = w) (fun _ i _ => 8 - (intOf i).toNat)
    case atStart => exact ⟨0, Nat.zero_le _, rfl, by simp [beL], rfl⟩
    case round =>
      obtain ⟨k, hk, rfl, rfl, rfl⟩ := hrel
      by_cases hlt : k < 8
      · have hck := unhide HC k hlt
        have hcb := unhide HB k hlt
        have hsn := beL_snoc q k (by rw [unhide HQL]; exact hlt)
        have hval := or_byte (beL (q.take k)) (q.getD k 0) hcb
        rw [← hsn] at hval
        obtain ⟨c, hcc⟩ : ∃ c, q.getD k 0 = c := ⟨_, rfl⟩
        have ha1 := beL_lt (q.take k)
        obtain ⟨a, ha⟩ : ∃ a, beL (q.take k) = a := ⟨_, rfl⟩
        obtain ⟨a', ha'⟩ : ∃ a', beL (q.take (k + 1)) = a' := ⟨_, rfl⟩
        rw [hcc] at hck hcb hval
        rw [ha] at hval ha1 ⊢
        rw [ha'] at hval
        have Ha' := hide ha'
        have hlt' : (k : Int) < 8 := by omega
        clear hcc ha ha' hsn
        simp only [Nat.zero_mul, Nat.zero_add, Nat.one_mul, Nat.reduceMul, ← Nat.add_assoc] at hck
        go_wp2
        go_roundw
        case rel => exact ⟨k + 1, by omega, by go_num, by rw [unhide Ha'], trivial⟩
        case measure => simp [intOf]; omega
      · have hlt' : ¬ (k : Int) < 8 := by omega
        obtain rfl : k = 8 := by omega
        have HT := hide (List.take_of_length_le (by rw [unhide HQL]; exact Nat.le_refl _) : q.take 8 = q)
        rw [unhide HT]
        go_wp2
        go_ret
        exact ⟨rfl, rfl⟩
end Go.Proofs.YtejchncdimcdbaaGreatDoor
/-
  Laws for drawn regions, by genreg.py. No program.
-/
namespace Go.Proofs.YtejchncdimcdbaaGreatDoor
open Go Go.RowKit Go.BigFrame
set_option linter.unusedVariables false
set_option linter.unusedSimpArgs false
section
variable {P : Program} {Q : Exit → Act → World → Prop}
theorem wp_sh13 {id : Nat} {o0 o1 o2 o3 o4 o5 o6 o7 o8 o9 o10 o11 o12 : Oper} {a : Act} {w : World} (hm : P.follows .mixedOrders = true) (hs : Region.noSelect #[o0, o1, o2, o3, o4, o5, o6, o7, o8, o9, o10, o11, o12] = true)
    (f0 : Region.free .any #[o0, o1, o2, o3, o4, o5, o6, o7, o8, o9, o10, o11, o12] #[false, false, false, false, false, false, false, false, false, false, false, false, false] 0 = true) (r0 : (Region.ready .any #[o0, o1, o2, o3, o4, o5, o6, o7, o8, o9, o10, o11, o12] #[false, false, false, false, false, false, false, false, false, false, false, false, false]).contains 0 = true)
    (f2 : Region.free .any #[o0, o1, o2, o3, o4, o5, o6, o7, o8, o9, o10, o11, o12] #[true, false, false, false, false, false, false, false, false, false, false, false, false] 2 = true) (r2 : (Region.ready .any #[o0, o1, o2, o3, o4, o5, o6, o7, o8, o9, o10, o11, o12] #[true, false, false, false, false, false, false, false, false, false, false, false, false]).contains 2 = true)
    (f4 : Region.free .any #[o0, o1, o2, o3, o4, o5, o6, o7, o8, o9, o10, o11, o12] #[true, false, true, false, false, false, false, false, false, false, false, false, false] 4 = true) (r4 : (Region.ready .any #[o0, o1, o2, o3, o4, o5, o6, o7, o8, o9, o10, o11, o12] #[true, false, true, false, false, false, false, false, false, false, false, false, false]).contains 4 = true)
    (f6 : Region.free .any #[o0, o1, o2, o3, o4, o5, o6, o7, o8, o9, o10, o11, o12] #[true, false, true, false, true, false, false, false, false, false, false, false, false] 6 = true) (r6 : (Region.ready .any #[o0, o1, o2, o3, o4, o5, o6, o7, o8, o9, o10, o11, o12] #[true, false, true, false, true, false, false, false, false, false, false, false, false]).contains 6 = true)
    (f7 : Region.free .any #[o0, o1, o2, o3, o4, o5, o6, o7, o8, o9, o10, o11, o12] #[true, false, true, false, true, false, true, false, false, false, false, false, false] 7 = true) (r7 : (Region.ready .any #[o0, o1, o2, o3, o4, o5, o6, o7, o8, o9, o10, o11, o12] #[true, false, true, false, true, false, true, false, false, false, false, false, false]).contains 7 = true)
    (f8 : Region.free .any #[o0, o1, o2, o3, o4, o5, o6, o7, o8, o9, o10, o11, o12] #[true, false, true, false, true, false, true, true, false, false, false, false, false] 8 = true) (r8 : (Region.ready .any #[o0, o1, o2, o3, o4, o5, o6, o7, o8, o9, o10, o11, o12] #[true, false, true, false, true, false, true, true, false, false, false, false, false]).contains 8 = true)
    (f9 : Region.free .any #[o0, o1, o2, o3, o4, o5, o6, o7, o8, o9, o10, o11, o12] #[true, false, true, false, true, false, true, true, true, false, false, false, false] 9 = true) (r9 : (Region.ready .any #[o0, o1, o2, o3, o4, o5, o6, o7, o8, o9, o10, o11, o12] #[true, false, true, false, true, false, true, true, true, false, false, false, false]).contains 9 = true)
    (q_ : Region.ready .any #[o0, o1, o2, o3, o4, o5, o6, o7, o8, o9, o10, o11, o12] #[true, false, true, false, true, false, true, true, true, true, false, false, false] = [1, 11])
    (q1_ : Region.ready .any #[o0, o1, o2, o3, o4, o5, o6, o7, o8, o9, o10, o11, o12] #[true, true, true, false, true, false, true, true, true, true, false, false, false] = [3, 11])
    (q11_ : Region.ready .any #[o0, o1, o2, o3, o4, o5, o6, o7, o8, o9, o10, o11, o12] #[true, false, true, false, true, false, true, true, true, true, false, true, false] = [1])
    (q1_3_ : Region.ready .any #[o0, o1, o2, o3, o4, o5, o6, o7, o8, o9, o10, o11, o12] #[true, true, true, true, true, false, true, true, true, true, false, false, false] = [5, 11])
    (f1_3_5_10 : Region.free .any #[o0, o1, o2, o3, o4, o5, o6, o7, o8, o9, o10, o11, o12] #[true, true, true, true, true, true, true, true, true, true, false, false, false] 10 = true) (r1_3_5_10 : (Region.ready .any #[o0, o1, o2, o3, o4, o5, o6, o7, o8, o9, o10, o11, o12] #[true, true, true, true, true, true, true, true, true, true, false, false, false]).contains 10 = true)
    (q1_11_ : Region.ready .any #[o0, o1, o2, o3, o4, o5, o6, o7, o8, o9, o10, o11, o12] #[true, true, true, false, true, false, true, true, true, true, false, true, false] = [3])
    (q1_3_5_ : Region.ready .any #[o0, o1, o2, o3, o4, o5, o6, o7, o8, o9, o10, o11, o12] #[true, true, true, true, true, true, true, true, true, true, true, false, false] = [11])
    (q1_3_11_ : Region.ready .any #[o0, o1, o2, o3, o4, o5, o6, o7, o8, o9, o10, o11, o12] #[true, true, true, true, true, false, true, true, true, true, false, true, false] = [5])
    (f1_3_11_5_10 : Region.free .any #[o0, o1, o2, o3, o4, o5, o6, o7, o8, o9, o10, o11, o12] #[true, true, true, true, true, true, true, true, true, true, false, true, false] 10 = true) (r1_3_11_5_10 : (Region.ready .any #[o0, o1, o2, o3, o4, o5, o6, o7, o8, o9, o10, o11, o12] #[true, true, true, true, true, true, true, true, true, true, false, true, false]).contains 10 = true)
    (q1_3_5_11_ : Region.ready .any #[o0, o1, o2, o3, o4, o5, o6, o7, o8, o9, o10, o11, o12] #[true, true, true, true, true, true, true, true, true, true, true, true, false] = [12])
    (q1_3_5_11_12_ : Region.ready .any #[o0, o1, o2, o3, o4, o5, o6, o7, o8, o9, o10, o11, o12] #[true, true, true, true, true, true, true, true, true, true, true, true, true] = [])
    (g1 : o1.guard = none)    (g3 : o3.guard = none)    (g5 : o5.guard = none)    (g11 : o11.guard = none)    (g12 : o12.guard = none)
    (ne11_1 : ∀ d, o11.dst = some d → o1.dst ≠ some d)
    (ne11_3 : ∀ d, o11.dst = some d → o3.dst ≠ some d)
    (ne11_5 : ∀ d, o11.dst = some d → o5.dst ≠ some d)
    (ne11_10 : ∀ d, o11.dst = some d → o10.dst ≠ some d)
    (v0 v2 v4 v6 v7 v8 v9 : Value) (A0 A1 A2 A3 A4 A5 A6 : Act)
    (S : World → Prop)
    (I_ : World → Prop)
    (I1_ : Value → World → Prop)
    (I11_ : Value → World → Prop)
    (I1_3_ : Value → Value → World → Prop)
    (I1_11_ : Value → Value → World → Prop)
    (I1_3_5_ : Value → Value → Value → World → Prop)
    (I1_3_11_ : Value → Value → Value → World → Prop)
    (I1_3_5_11_ : Value → Value → Value → Value → World → Prop)
    (I1_3_5_11_12_ : Value → Value → Value → Value → Value → World → Prop)
    (v10 : Value → Value → Value → Value)
    (p0 : a.put o0.dst v0 = A0) (hy0 : YieldsIf P #[o0, o1, o2, o3, o4, o5, o6, o7, o8, o9, o10, o11, o12] S o0 v0 a)
    (p2 : A0.put o2.dst v2 = A1) (hy2 : YieldsIf P #[o0, o1, o2, o3, o4, o5, o6, o7, o8, o9, o10, o11, o12] S o2 v2 A0)
    (p4 : A1.put o4.dst v4 = A2) (hy4 : YieldsIf P #[o0, o1, o2, o3, o4, o5, o6, o7, o8, o9, o10, o11, o12] S o4 v4 A1)
    (p6 : A2.put o6.dst v6 = A3) (hy6 : YieldsIf P #[o0, o1, o2, o3, o4, o5, o6, o7, o8, o9, o10, o11, o12] S o6 v6 A2)
    (p7 : A3.put o7.dst v7 = A4) (hy7 : YieldsIf P #[o0, o1, o2, o3, o4, o5, o6, o7, o8, o9, o10, o11, o12] S o7 v7 A3)
    (p8 : A4.put o8.dst v8 = A5) (hy8 : YieldsIf P #[o0, o1, o2, o3, o4, o5, o6, o7, o8, o9, o10, o11, o12] S o8 v8 A4)
    (p9 : A5.put o9.dst v9 = A6) (hy9 : YieldsIf P #[o0, o1, o2, o3, o4, o5, o6, o7, o8, o9, o10, o11, o12] S o9 v9 A5)
    (i0 : I_ w.drew)
    (hIS : (∀ w', I_  w' → S w') ∧ (∀ (u1 : Value) w', I1_ u1 w' → S w') ∧ (∀ (u11 : Value) w', I11_ u11 w' → S w') ∧ (∀ (u1 u3 : Value) w', I1_3_ u1 u3 w' → S w') ∧ (∀ (u1 u11 : Value) w', I1_11_ u1 u11 w' → S w') ∧ (∀ (u1 u3 u5 : Value) w', I1_3_5_ u1 u3 u5 w' → S w') ∧ (∀ (u1 u3 u11 : Value) w', I1_3_11_ u1 u3 u11 w' → S w') ∧ (∀ (u1 u3 u5 u11 : Value) w', I1_3_5_11_ u1 u3 u5 u11 w' → S w') ∧ (∀ (u1 u3 u5 u11 u12 : Value) w', I1_3_5_11_12_ u1 u3 u5 u11 u12 w' → S w'))
    (s_1 : ∀ w', I_  w' → ∀ K : Act → World → Prop, (∀ (u1 : Value) w2, I1_ u1 w2 → K (A6.put o1.dst u1) w2) → o1.wp P A6 w' K (NoPanic Q))
    (s_11 : ∀ w', I_  w' → ∀ K : Act → World → Prop, (∀ (u11 : Value) w2, I11_ u11 w2 → K (A6.put o11.dst u11) w2) → o11.wp P A6 w' K (NoPanic Q))
    (s1_3 : ∀ (u1 : Value) w', I1_ u1 w' → ∀ K : Act → World → Prop, (∀ (u3 : Value) w2, I1_3_ u1 u3 w2 → K ((A6.put o1.dst u1).put o3.dst u3) w2) → o3.wp P (A6.put o1.dst u1) w' K (NoPanic Q))
    (s1_11 : ∀ (u1 : Value) w', I1_ u1 w' → ∀ K : Act → World → Prop, (∀ (u11 : Value) w2, I1_11_ u1 u11 w2 → K ((A6.put o1.dst u1).put o11.dst u11) w2) → o11.wp P (A6.put o1.dst u1) w' K (NoPanic Q))
    (s11_1 : ∀ (u11 : Value) w', I11_ u11 w' → ∀ K : Act → World → Prop, (∀ (u1 : Value) w2, I1_11_ u1 u11 w2 → K ((A6.put o11.dst u11).put o1.dst u1) w2) → o1.wp P (A6.put o11.dst u11) w' K (NoPanic Q))
    (s1_3_5 : ∀ (u1 u3 : Value) w', I1_3_ u1 u3 w' → ∀ K : Act → World → Prop, (∀ (u5 : Value) w2, I1_3_5_ u1 u3 u5 w2 → K (((A6.put o1.dst u1).put o3.dst u3).put o5.dst u5) w2) → o5.wp P ((A6.put o1.dst u1).put o3.dst u3) w' K (NoPanic Q))
    (s1_3_11 : ∀ (u1 u3 : Value) w', I1_3_ u1 u3 w' → ∀ K : Act → World → Prop, (∀ (u11 : Value) w2, I1_3_11_ u1 u3 u11 w2 → K (((A6.put o1.dst u1).put o3.dst u3).put o11.dst u11) w2) → o11.wp P ((A6.put o1.dst u1).put o3.dst u3) w' K (NoPanic Q))
    (s1_11_3 : ∀ (u1 u11 : Value) w', I1_11_ u1 u11 w' → ∀ K : Act → World → Prop, (∀ (u3 : Value) w2, I1_3_11_ u1 u3 u11 w2 → K (((A6.put o1.dst u1).put o11.dst u11).put o3.dst u3) w2) → o3.wp P ((A6.put o1.dst u1).put o11.dst u11) w' K (NoPanic Q))
    (s1_3_5_11 : ∀ (u1 u3 u5 : Value) w', I1_3_5_ u1 u3 u5 w' → ∀ K : Act → World → Prop, (∀ (u11 : Value) w2, I1_3_5_11_ u1 u3 u5 u11 w2 → K (((((A6.put o1.dst u1).put o3.dst u3).put o5.dst u5).put o10.dst (v10 u1 u3 u5)).put o11.dst u11) w2) → o11.wp P ((((A6.put o1.dst u1).put o3.dst u3).put o5.dst u5).put o10.dst (v10 u1 u3 u5)) w' K (NoPanic Q))
    (s1_3_11_5 : ∀ (u1 u3 u11 : Value) w', I1_3_11_ u1 u3 u11 w' → ∀ K : Act → World → Prop, (∀ (u5 : Value) w2, I1_3_5_11_ u1 u3 u5 u11 w2 → K ((((A6.put o1.dst u1).put o3.dst u3).put o11.dst u11).put o5.dst u5) w2) → o5.wp P (((A6.put o1.dst u1).put o3.dst u3).put o11.dst u11) w' K (NoPanic Q))
    (s1_3_5_11_12 : ∀ (u1 u3 u5 u11 : Value) w', I1_3_5_11_ u1 u3 u5 u11 w' → ∀ K : Act → World → Prop, (∀ (u12 : Value) w2, I1_3_5_11_12_ u1 u3 u5 u11 u12 w2 → K ((((((A6.put o1.dst u1).put o3.dst u3).put o5.dst u5).put o10.dst (v10 u1 u3 u5)).put o11.dst u11).put o12.dst u12) w2) → o12.wp P (((((A6.put o1.dst u1).put o3.dst u3).put o5.dst u5).put o10.dst (v10 u1 u3 u5)).put o11.dst u11) w' K (NoPanic Q))
    (y1_3_5_10 : ∀ (u1 u3 u5 : Value) w', I1_3_5_ u1 u3 u5 w' → YieldsIf P #[o0, o1, o2, o3, o4, o5, o6, o7, o8, o9, o10, o11, o12] S o10 (v10 u1 u3 u5) (((A6.put o1.dst u1).put o3.dst u3).put o5.dst u5))
    (y1_3_11_5_10 : ∀ (u1 u3 u5 u11 : Value) w', I1_3_5_11_ u1 u3 u5 u11 w' → YieldsIf P #[o0, o1, o2, o3, o4, o5, o6, o7, o8, o9, o10, o11, o12] S o10 (v10 u1 u3 u5) ((((A6.put o1.dst u1).put o3.dst u3).put o5.dst u5).put o11.dst u11))
    (h : ∀ (u1 u3 u5 u11 u12 : Value) w', I1_3_5_11_12_ u1 u3 u5 u11 u12 w' → Q .normal ((((((A6.put o1.dst u1).put o3.dst u3).put o5.dst u5).put o10.dst (v10 u1 u3 u5)).put o11.dst u11).put o12.dst u12) w') :
    (Code.region id #[o0, o1, o2, o3, o4, o5, o6, o7, o8, o9, o10, o11, o12] true).wp P Q a w := by
  subst p0 p2 p4 p6 p7 p8 p9
  obtain ⟨z_, z1_, z11_, z1_3_, z1_11_, z1_3_5_, z1_3_11_, z1_3_5_11_, z1_3_5_11_12_⟩ := hIS
  refine wp_region_noPanic ?_
  refine wp_region_held_drew (S := S) hm (z_ _ i0) (fun hH => ?_)
  show wpAnyH P .any #[o0, o1, o2, o3, o4, o5, o6, o7, o8, o9, o10, o11, o12] (NoPanic Q) S 13 #[false, false, false, false, false, false, false, false, false, false, false, false, false] a w.drew
  refine wpAnyH_take (i := 0) (oi := o0) rfl hs f0 r0 (fun _ _ _ h => h) hy0 hH ?_
  refine wpAnyH_take (i := 2) (oi := o2) rfl hs f2 r2 (fun _ _ _ h => h) hy2 hH ?_
  refine wpAnyH_take (i := 4) (oi := o4) rfl hs f4 r4 (fun _ _ _ h => h) hy4 hH ?_
  refine wpAnyH_take (i := 6) (oi := o6) rfl hs f6 r6 (fun _ _ _ h => h) hy6 hH ?_
  refine wpAnyH_take (i := 7) (oi := o7) rfl hs f7 r7 (fun _ _ _ h => h) hy7 hH ?_
  refine wpAnyH_take (i := 8) (oi := o8) rfl hs f8 r8 (fun _ _ _ h => h) hy8 hH ?_
  refine wpAnyH_take (i := 9) (oi := o9) rfl hs f9 r9 (fun _ _ _ h => h) hy9 hH ?_
  generalize (((((((a.put o0.dst v0).put o2.dst v2).put o4.dst v4).put o6.dst v6).put o7.dst v7).put o8.dst v8).put o9.dst v9) = B at *
  have wa1 : ∀ y, Region.wanted o1 y = true := fun y => by unfold Region.wanted; rw [g1]
  have wa3 : ∀ y, Region.wanted o3 y = true := fun y => by unfold Region.wanted; rw [g3]
  have wa5 : ∀ y, Region.wanted o5 y = true := fun y => by unfold Region.wanted; rw [g5]
  have wa11 : ∀ y, Region.wanted o11 y = true := fun y => by unfold Region.wanted; rw [g11]
  have wa12 : ∀ y, Region.wanted o12 y = true := fun y => by unfold Region.wanted; rw [g12]
  have t1_3_5_11_12_ : ∀ (u1 u3 u5 u11 u12 : Value) w', I1_3_5_11_12_ u1 u3 u5 u11 u12 w' → wpAnyH P .any #[o0, o1, o2, o3, o4, o5, o6, o7, o8, o9, o10, o11, o12] (NoPanic Q) S 0 #[true, true, true, true, true, true, true, true, true, true, true, true, true] ((((((B.put o1.dst u1).put o3.dst u3).put o5.dst u5).put o10.dst (v10 u1 u3 u5)).put o11.dst u11).put o12.dst u12) w' := by
    intro u1 u3 u5 u11 u12 w0 i0
    exact ⟨q1_3_5_11_12_, NoPanic.normal (h u1 u3 u5 u11 u12 w0 i0)⟩
  have t1_3_5_11_ : ∀ (u1 u3 u5 u11 : Value) w', I1_3_5_11_ u1 u3 u5 u11 w' → wpAnyH P .any #[o0, o1, o2, o3, o4, o5, o6, o7, o8, o9, o10, o11, o12] (NoPanic Q) S 1 #[true, true, true, true, true, true, true, true, true, true, true, true, false] (((((B.put o1.dst u1).put o3.dst u3).put o5.dst u5).put o10.dst (v10 u1 u3 u5)).put o11.dst u11) w' := by
    intro u1 u3 u5 u11 w0 i0
    refine wpAnyH_ready (rs := [12]) q1_3_5_11_ (by simp) (AllReadyH.cons (o := o12) rfl (fun K hK => ?_) AllReadyH.nil)
    · rw [if_pos (wa12 _)]
      refine s1_3_5_11_12 u1 u3 u5 u11 w0 i0 K (fun u12 w1 i1 => hK.out _ _ (z1_3_5_11_12_ u1 u3 u5 u11 u12 w1 i1) (fun _ => ?_))
      clear hK
      exact t1_3_5_11_12_ u1 u3 u5 u11 u12 w1 i1
  have t1_3_11_ : ∀ (u1 u3 u11 : Value) w', I1_3_11_ u1 u3 u11 w' → wpAnyH P .any #[o0, o1, o2, o3, o4, o5, o6, o7, o8, o9, o10, o11, o12] (NoPanic Q) S 3 #[true, true, true, true, true, false, true, true, true, true, false, true, false] (((B.put o1.dst u1).put o3.dst u3).put o11.dst u11) w' := by
    intro u1 u3 u11 w0 i0
    refine wpAnyH_ready (rs := [5]) q1_3_11_ (by simp) (AllReadyH.cons (o := o5) rfl (fun K hK => ?_) AllReadyH.nil)
    · rw [if_pos (wa5 _)]
      refine s1_3_11_5 u1 u3 u11 w0 i0 K (fun u5 w1 i1 => hK.out _ _ (z1_3_5_11_ u1 u3 u5 u11 w1 i1) (fun _ => ?_))
      clear hK
      rw [Act.put_comm _ _ _ ne11_5]
      refine wpAnyH_take (i := 10) (oi := o10) rfl hs f1_3_11_5_10 r1_3_11_5_10 (fun _ _ _ h => h) (y1_3_11_5_10 u1 u3 u5 u11 w1 i1) (z1_3_5_11_ u1 u3 u5 u11 w1 i1) ?_
      rw [Act.put_comm _ _ _ ne11_10]
      exact t1_3_5_11_ u1 u3 u5 u11 w1 i1
  have t1_3_5_ : ∀ (u1 u3 u5 : Value) w', I1_3_5_ u1 u3 u5 w' → wpAnyH P .any #[o0, o1, o2, o3, o4, o5, o6, o7, o8, o9, o10, o11, o12] (NoPanic Q) S 2 #[true, true, true, true, true, true, true, true, true, true, true, false, false] ((((B.put o1.dst u1).put o3.dst u3).put o5.dst u5).put o10.dst (v10 u1 u3 u5)) w' := by
    intro u1 u3 u5 w0 i0
    refine wpAnyH_ready (rs := [11]) q1_3_5_ (by simp) (AllReadyH.cons (o := o11) rfl (fun K hK => ?_) AllReadyH.nil)
    · rw [if_pos (wa11 _)]
      refine s1_3_5_11 u1 u3 u5 w0 i0 K (fun u11 w1 i1 => hK.out _ _ (z1_3_5_11_ u1 u3 u5 u11 w1 i1) (fun _ => ?_))
      clear hK
      exact t1_3_5_11_ u1 u3 u5 u11 w1 i1
  have t1_11_ : ∀ (u1 u11 : Value) w', I1_11_ u1 u11 w' → wpAnyH P .any #[o0, o1, o2, o3, o4, o5, o6, o7, o8, o9, o10, o11, o12] (NoPanic Q) S 4 #[true, true, true, false, true, false, true, true, true, true, false, true, false] ((B.put o1.dst u1).put o11.dst u11) w' := by
    intro u1 u11 w0 i0
    refine wpAnyH_ready (rs := [3]) q1_11_ (by simp) (AllReadyH.cons (o := o3) rfl (fun K hK => ?_) AllReadyH.nil)
    · rw [if_pos (wa3 _)]
      refine s1_11_3 u1 u11 w0 i0 K (fun u3 w1 i1 => hK.out _ _ (z1_3_11_ u1 u3 u11 w1 i1) (fun _ => ?_))
      clear hK
      rw [Act.put_comm _ _ _ ne11_3]
      exact t1_3_11_ u1 u3 u11 w1 i1
  have t1_3_ : ∀ (u1 u3 : Value) w', I1_3_ u1 u3 w' → wpAnyH P .any #[o0, o1, o2, o3, o4, o5, o6, o7, o8, o9, o10, o11, o12] (NoPanic Q) S 4 #[true, true, true, true, true, false, true, true, true, true, false, false, false] ((B.put o1.dst u1).put o3.dst u3) w' := by
    intro u1 u3 w0 i0
    refine wpAnyH_ready (rs := [5, 11]) q1_3_ (by simp) (AllReadyH.cons (o := o5) rfl (fun K hK => ?_) (AllReadyH.cons (o := o11) rfl (fun K hK => ?_) AllReadyH.nil))
    · rw [if_pos (wa5 _)]
      refine s1_3_5 u1 u3 w0 i0 K (fun u5 w1 i1 => hK.out _ _ (z1_3_5_ u1 u3 u5 w1 i1) (fun _ => ?_))
      clear hK
      refine wpAnyH_take (i := 10) (oi := o10) rfl hs f1_3_5_10 r1_3_5_10 (fun _ _ _ h => h) (y1_3_5_10 u1 u3 u5 w1 i1) (z1_3_5_ u1 u3 u5 w1 i1) ?_
      exact t1_3_5_ u1 u3 u5 w1 i1
    · rw [if_pos (wa11 _)]
      refine s1_3_11 u1 u3 w0 i0 K (fun u11 w1 i1 => hK.out _ _ (z1_3_11_ u1 u3 u11 w1 i1) (fun _ => ?_))
      clear hK
      exact t1_3_11_ u1 u3 u11 w1 i1
  have t11_ : ∀ (u11 : Value) w', I11_ u11 w' → wpAnyH P .any #[o0, o1, o2, o3, o4, o5, o6, o7, o8, o9, o10, o11, o12] (NoPanic Q) S 5 #[true, false, true, false, true, false, true, true, true, true, false, true, false] (B.put o11.dst u11) w' := by
    intro u11 w0 i0
    refine wpAnyH_ready (rs := [1]) q11_ (by simp) (AllReadyH.cons (o := o1) rfl (fun K hK => ?_) AllReadyH.nil)
    · rw [if_pos (wa1 _)]
      refine s11_1 u11 w0 i0 K (fun u1 w1 i1 => hK.out _ _ (z1_11_ u1 u11 w1 i1) (fun _ => ?_))
      clear hK
      rw [Act.put_comm _ _ _ ne11_1]
      exact t1_11_ u1 u11 w1 i1
  have t1_ : ∀ (u1 : Value) w', I1_ u1 w' → wpAnyH P .any #[o0, o1, o2, o3, o4, o5, o6, o7, o8, o9, o10, o11, o12] (NoPanic Q) S 5 #[true, true, true, false, true, false, true, true, true, true, false, false, false] (B.put o1.dst u1) w' := by
    intro u1 w0 i0
    refine wpAnyH_ready (rs := [3, 11]) q1_ (by simp) (AllReadyH.cons (o := o3) rfl (fun K hK => ?_) (AllReadyH.cons (o := o11) rfl (fun K hK => ?_) AllReadyH.nil))
    · rw [if_pos (wa3 _)]
      refine s1_3 u1 w0 i0 K (fun u3 w1 i1 => hK.out _ _ (z1_3_ u1 u3 w1 i1) (fun _ => ?_))
      clear hK
      exact t1_3_ u1 u3 w1 i1
    · rw [if_pos (wa11 _)]
      refine s1_11 u1 w0 i0 K (fun u11 w1 i1 => hK.out _ _ (z1_11_ u1 u11 w1 i1) (fun _ => ?_))
      clear hK
      exact t1_11_ u1 u11 w1 i1
  have t_ : ∀ w', I_  w' → wpAnyH P .any #[o0, o1, o2, o3, o4, o5, o6, o7, o8, o9, o10, o11, o12] (NoPanic Q) S 6 #[true, false, true, false, true, false, true, true, true, true, false, false, false] B w' := by
    intro w0 i0
    refine wpAnyH_ready (rs := [1, 11]) q_ (by simp) (AllReadyH.cons (o := o1) rfl (fun K hK => ?_) (AllReadyH.cons (o := o11) rfl (fun K hK => ?_) AllReadyH.nil))
    · rw [if_pos (wa1 _)]
      refine s_1  w0 i0 K (fun u1 w1 i1 => hK.out _ _ (z1_ u1 w1 i1) (fun _ => ?_))
      clear hK
      exact t1_ u1 w1 i1
    · rw [if_pos (wa11 _)]
      refine s_11  w0 i0 K (fun u11 w1 i1 => hK.out _ _ (z11_ u11 w1 i1) (fun _ => ?_))
      clear hK
      exact t11_ u11 w1 i1
  exact t_ w.drew i0
end
end Go.Proofs.YtejchncdimcdbaaGreatDoor
namespace Go.Proofs.YtejchncdimcdbaaGreatDoor
open Go.RowKit Go.BigFrame
set_option linter.unusedVariables false
set_option linter.unusedSimpArgs false

theorem put4_heap {w : World} {g : Nat} {a b c d : Value} {t : TypeId} (h : w.heap[g]? = some (.cells #[a, b, c, d] t (0, 0))) (x y z u : Value) : ((((w.setCell ⟨g, 0, none⟩ x).setCell ⟨g, 1, none⟩ y).setCell ⟨g, 2, none⟩ z).setCell ⟨g, 3, none⟩ u).heap[g]? = some (.cells #[x, y, z, u] t (0, 0)) := by
  rw [heap_setCell_same _ g 3 _ t _ (heap_setCell_same _ g 2 _ t _ (heap_setCell_same _ g 1 _ t _ (heap_setCell_same w g 0 _ t _ h)))]; rfl
theorem put4_kept {w0 w : World} (k : Kept [] w0 w) (g : Nat) (hg : w0.heap.size ≤ g) (x y z u : Value) : Kept [] w0 ((((w.setCell ⟨g, 0, none⟩ x).setCell ⟨g, 1, none⟩ y).setCell ⟨g, 2, none⟩ z).setCell ⟨g, 3, none⟩ u) := (((k.setCell (Or.inr hg) x).setCell (Or.inr hg) y).setCell (Or.inr hg) z).setCell (Or.inr hg) u
theorem Tryz.size_head : (Tryz.prog.info? 81).map (·.size) = some 4 := by kernel_rfl
theorem hfroz {w : World} {b : Nat} {cs : Array Value} {t : TypeId} (h : w.heap[b]? = some (.cells cs t (0, 0))) : w.frozen? ⟨b, 0, none⟩ = false ∧ w.frozen? ⟨b, 1, none⟩ = false ∧ w.frozen? ⟨b, 2, none⟩ = false ∧ w.frozen? ⟨b, 3, none⟩ = false :=
  ⟨frozen_of_row _ _ _ _ _ h, frozen_of_row _ _ _ _ _ h, frozen_of_row _ _ _ _ _ h, frozen_of_row _ _ _ _ _ h⟩
theorem wp_allochead {o : Oper} {a : Act} {w : World} {K : Act → World → Prop} {Q : Exit → Act → World → Prop} (ho : o.op = .alloc 81) (h : K (a.put o.dst (.pointer (some ⟨w.heap.size, 0, none⟩))) (w.alloc (.cells #[.int .u64 0, .int .u64 0, .int .u64 0, .int .i64 0] 81))) : o.wp Tryz.prog a w K Q := by
  unfold Oper.wp execOp
  simp only [ho]
  go_simp
  exact h
theorem wrap_small {n : Nat} (h : n < 256) : IntKind.i64.wrap (n : Int) = (n : Int) := by
  simp [IntKind.wrap, IntKind.bits, IntKind.signed]; omega
/-- A head that was laid behind W. -/
def Ald (W : World) (u : Value) (cs : Array Value) (w : World) : Prop := ∃ g, u = .pointer (some ⟨g, 0, none⟩) ∧ W.heap.size ≤ g ∧ w.heap[g]? = some (.cells cs 81 (0, 0))
theorem ald_new {W w : World} (k : Kept [] W w) : Ald W (.pointer (some ⟨w.heap.size, 0, none⟩)) #[.int .u64 0, .int .u64 0, .int .u64 0, .int .i64 0] (w.alloc (.cells #[.int .u64 0, .int .u64 0, .int .u64 0, .int .i64 0] 81)) := ⟨_, rfl, k.size, heap_alloc_new _ _⟩
/-- The head with which p begins. -/
structure HdR where
  a : Nat
  b : Nat
  c : Nat
  d : Nat
def payH (pl : Nat) (pay : List Nat) : Bool := decide (pay.length = 30 ∧ pay.take 5 = [78, 84, 82, 89, 49] ∧ beL ((pay.drop 5).take 8) = pl ∧ 1 ≤ pay.getD 29 0 ∧ pay.getD 29 0 ≤ 32)
def hdF (p : List Nat) : Option HdR := match firstF p with
  | none => none
  | some x => if payH x.1 x.2 then some ⟨beL ((x.2.drop 5).take 8), beL ((x.2.drop 13).take 8), beL ((x.2.drop 21).take 8), x.2.getD 29 0⟩ else none
def hdC (p : List Nat) : HdR := (hdF p).getD ⟨0, 0, 0, 0⟩
def hdN (p : List Nat) : Nat := if (hdF p).isSome then 48 else 0
theorem nextF_kind {p : List Nat} (h : (nextF p 0).kind ≠ 1) : hdF p = none := by
  cases hf : firstF p with
  | none => unfold hdF; rw [hf]
  | some x =>
    exfalso
    apply h
    unfold nextF
    have hp : 0 < p.length := by
      rcases Nat.eq_zero_or_pos p.length with h0 | h0
      · rw [firstF_short (by omega)] at hf; cases hf
      · exact h0
    rw [if_neg (by omega), if_neg (by omega)]
    simp [hf]
set_option maxRecDepth 100000 in
set_option maxHeartbeats 4000000 in
theorem readHead_any (v : Value) (p : List Nat) (w : World) (h : Rd w v p) :
    Calls Tryz.prog 70 #[v] w fun e w' => e = .returned (.tuple #[.agg #[.int .u64 (hdC p).a, .int .u64 (hdC p).b, .int .u64 (hdC p).c, .int .i64 (hdC p).d], .int .i64 (hdN p), .bool (hdF p).isSome]) ∧ Kept [] w w' := by
  have H := hide h
  obtain ⟨a1, n1, c1, rfl, hn1, _⟩ := id h
  subst hn1
  clear h
  have HZ0 := hide (heap_alloc_new w (.cells #[.int .u64 0, .int .u64 0, .int .u64 0, .int .i64 0] 81))
  have HK0 := hide ((Kept.refl [] w).alloc (.cells #[.int .u64 0, .int .u64 0, .int .u64 0, .int .i64 0] 81))
  obtain ⟨X, hX⟩ : ∃ X, hdC p = X := ⟨_, rfl⟩
  obtain ⟨Y, hY⟩ : ∃ Y, hdN p = Y := ⟨_, rfl⟩
  obtain ⟨Z, hZ⟩ : ∃ Z, (hdF p).isSome = Z := ⟨_, rfl⟩
  rw [hX, hY, hZ]
  have HNO := hide (fun (h0 : hdF p = none) => by
    rw [← hX, ← hY, ← hZ]
    exact ⟨by simp [hdC, h0], by simp [hdN, h0], by simp [h0]⟩ : hdF p = none → X = ⟨0, 0, 0, 0⟩ ∧ Y = 0 ∧ Z = false)
  have HYE := hide (fun (x : HdR) (h0 : hdF p = some x) => by
    rw [← hX, ← hY, ← hZ]
    exact ⟨by simp [hdC, h0], by simp [hdN, h0], by simp [h0]⟩ : ∀ x, hdF p = some x → X = x ∧ Y = 48 ∧ Z = true)
  clear hX hY hZ
  go_enter Tryz.func70, Tryz.ntmps70
  go_wp2_with fail
  refine Calls.mono (next_any _ p 0 _ ((unhide H).old (unhide HK0) (by simp)) (by omega)) ?_
  rintro e w1 ⟨v1, rfl, n1, k1⟩
  obtain ⟨av, nv, cv, rfl, hnv, _⟩ := id n1.1
  have HN1 := hide n1
  have HZ1 := hide (k1.heap (unhide HZ0) (by simp))
  have HK1 := hide ((unhide HK0).trans k1 (by simp))
  have HLT1 := hide (lt_of_block (unhide HZ1) : w.heap.size < w1.heap.size)
  clear n1 k1 hnv
  have HZW := hide (((Kept.refl [] w1).alloc (.cells #[.int .u64 ((nextF p 0).pl : Int), .slice av nv cv] 187)).heap (unhide HZ1) (by simp))
  have HKW := hide ((unhide HK1).alloc (.cells #[.int .u64 ((nextF p 0).pl : Int), .slice av nv cv] 187))
  have HFW := hide (heap_alloc_new w1 (.cells #[.int .u64 ((nextF p 0).pl : Int), .slice av nv cv] 187))
  have HNW := hide ((unhide HN1).1.old ((Kept.refl [] w1).alloc (.cells #[.int .u64 ((nextF p 0).pl : Int), .slice av nv cv] 187)) (by simp))
  obtain ⟨W1, hW1⟩ : ∃ W, w1.alloc (.cells #[.int .u64 ((nextF p 0).pl : Int), .slice av nv cv] 187) = W := ⟨_, rfl⟩
  have HS1 := hide (by rw [← hW1]; simp : w1.heap.size < W1.heap.size)
  rw [hW1] at HZW HKW HFW HNW
  have HW1 := hide hW1
  clear hW1
  obtain ⟨d0, d1, d2, d3⟩ := hcells (unhide HZW)
  obtain ⟨f0, f1, f2, f3⟩ := hfroz (unhide HZW)
  have g0 : W1.cell? ⟨w1.heap.size, 0, none⟩ = some (.int .u64 ((nextF p 0).pl : Int)) := by rw [cell_of_row _ _ _ _ _ _ (unhide HFW)]; rfl
  have g1 : W1.cell? ⟨w1.heap.size, 1, none⟩ = some (.slice av nv cv) := by rw [cell_of_row _ _ _ _ _ _ (unhide HFW)]; rfl
  have HNK := hide (fun h => nextF_kind (p := p) h)
  have hcase := nextF_cases p 0 (unhide H).byte
  by_cases hkd : (nextF p 0).kind = 1
  · rcases hcase with ⟨_, hN⟩ | ⟨_, hN⟩ | ⟨m, pl, pay, hzn, hN, b1, b2, b3, b4, b5, b6, b7⟩
    · rw [hN] at hkd; simp at hkd
    · rw [hN] at hkd; simp at hkd
    · obtain rfl : m = 0 := by omega
      rw [List.drop_zero] at b7
      rw [hN] at HN1 HFW HNW HW1 g0 ⊢
      simp only at HN1 HFW HNW HW1 g0 ⊢
      have hnv : nv = pay.length := by obtain ⟨_, _, _, e, h9, _⟩ := (unhide HN1).1; cases e; exact h9.symm
      subst hnv
      have HHF := hide (by unfold hdF; rw [b7] : hdF p = if payH pl pay then some ⟨beL ((pay.drop 5).take 8), beL ((pay.drop 13).take 8), beL ((pay.drop 21).take 8), pay.getD 29 0⟩ else none)
      have hpl : (pl : Int) ≤ 18446744073709551615 := by omega
      clear hN hkd hzn b5 b6 b7 HNK
      by_cases hl30 : pay.length = 30
      · have HPL := hide hl30
        obtain ⟨_, _, _, he9, _, hcap9, ⟨hcm9, _⟩, _, _, hcl9⟩ := id (unhide HNW)
        cases he9
        obtain ⟨bq, oq, e9, _⟩ := hcl9 (by omega)
        cases e9
        clear hcl9
        have hcv : 30 ≤ cv := by omega
        clear hcap9
        rw [hl30] at HNW HN1 HFW HW1 g1 ⊢
        clear hl30
        obtain ⟨HHF30, hhf⟩ : ∃ q, q = pay := ⟨_, rfl⟩
        clear HHF30 hhf
        have kc := fun (w : World) (C : Array Value) (n c : Nat) => Lib.run_convert_bytes_const (P := Tryz.prog) w 72 5 C n c Tryz.underlying72 Tryz.underlying5
        have hsz1 : (w1.alloc (.cells #[.int .u64 (pl : Int), .slice (some ⟨bq, oq, none⟩) 30 cv] 187)).heap.size = w1.heap.size + 1 := by simp
        have kc1 := kc (w1.alloc (.cells #[.int .u64 (pl : Int), .slice (some ⟨bq, oq, none⟩) 30 cv] 187)) #[.int .u8 78, .int .u8 84, .int .u8 82, .int .u8 89, .int .u8 49] 5 5
        rw [hsz1] at kc1
        clear kc hsz1
        rw [← unhide HW1] at g0 g1
        go_wp2_with fail
        clear kc1 d0 d1 d2 d3 f0 f1 f2 f3 g0 g1
        rw [unhide HW1]
        have HK3 := hide ((Kept.refl [] W1).alloc (.cells #[.int .u8 78, .int .u8 84, .int .u8 82, .int .u8 89, .int .u8 49] 5 (5, 6)))
        have HR3 := hide (rd_row [78, 84, 82, 89, 49] (heap_alloc_new W1 (.cells #[.int .u8 78, .int .u8 84, .int .u8 82, .int .u8 89, .int .u8 49] 5 (5, 6))) rfl (by decide) 5 rfl (by decide))
        rw [show W1.heap.size = w1.heap.size + 1 by rw [← unhide HW1]; simp] at HR3
        obtain ⟨W3, hW3⟩ : ∃ W, W1.alloc (.cells #[.int .u8 78, .int .u8 84, .int .u8 82, .int .u8 89, .int .u8 49] 5 (5, 6)) = W := ⟨_, rfl⟩
        rw [hW3] at HK3 HR3 ⊢
        clear hW3
        have HZ3 := hide ((unhide HK3).heap (unhide HZW) (by simp))
        have HF3 := hide ((unhide HK3).heap (unhide HFW) (by simp))
        have HKW3 := hide ((unhide HKW).trans (unhide HK3) (by simp))
        have HNW3 := hide ((unhide HNW).old (unhide HK3) (by simp))
        have hcut := cutP_any bq oq cv _ pay [78, 84, 82, 89, 49] W3 (by rw [unhide HPL]; exact unhide HNW3) (unhide HR3) (by rw [unhide HPL]; decide)
        rw [unhide HPL] at hcut
        refine Calls.mono hcut ?_
        clear hcut
        rintro e w4 ⟨rfl, hw4⟩
        subst w4
        obtain ⟨d0, d1, d2, d3⟩ := hcells (unhide HZ3)
        obtain ⟨f0, f1, f2, f3⟩ := hfroz (unhide HZ3)
        by_cases hpre : pay.take 5 = [78, 84, 82, 89, 49]
        · simp only [List.length_cons, List.length_nil, Nat.zero_add, Nat.reduceAdd, hpre, if_true, decide_true, Nat.reduceSub]
          have hfl : (pay.drop 5).length = 25 := by rw [List.length_drop, unhide HPL]
          have HFP := hide (by
            have h9 := Rd.cutN (n := 5) (N := 30) (p := pay) (by rw [unhide HPL]; exact unhide HNW3) (by decide) (by rw [unhide HPL]; exact Nat.le_refl _)
            rw [List.take_of_length_le (by rw [List.length_drop, unhide HPL]; exact Nat.le_refl _)] at h9
            exact h9 : Rd W3 (.slice (some ⟨bq, oq + 5, none⟩) 25 (cv - 5)) (pay.drop 5))
          obtain ⟨m0, hm0⟩ : ∃ m, beL ((pay.drop 5).take 8) = m := ⟨_, rfl⟩
          obtain ⟨m1, hm1⟩ : ∃ m, beL ((pay.drop 13).take 8) = m := ⟨_, rfl⟩
          obtain ⟨m2, hm2⟩ : ∃ m, beL ((pay.drop 21).take 8) = m := ⟨_, rfl⟩
          obtain ⟨wz, hwz⟩ : ∃ m, pay.getD 29 0 = m := ⟨_, rfl⟩
          have hwl : wz < 256 := by
            rw [← hwz, List.getD_eq_getElem?_getD, List.getElem?_eq_getElem (by rw [unhide HPL]; decide)]
            exact (unhide HNW3).byte _ (List.getElem_mem _)
          have HC24 := hide (by
            obtain ⟨_, _, _, e9, _, _, _, _, _, hcl⟩ := unhide HFP
            cases e9
            obtain ⟨b9, o9, e9, hc⟩ := hcl (by decide)
            cases e9
            have h9 := hc 24 (by decide)
            rw [← hwz]
            have e9 : (pay.drop 5).getD 24 0 = pay.getD 29 0 := by simp [List.getD_eq_getElem?_getD]
            rw [e9] at h9
            exact h9 : W3.cell? ⟨bq, oq + 5 + 24, none⟩ = some (.int .u8 (wz : Int)))
          have hnum : ∀ w', Kept [] W3 w' → ∀ i : Nat, i < 3 → Calls Tryz.prog 115 #[.slice (some ⟨bq, oq + 5, none⟩) 25 (cv - 5), .int .i64 i] w' fun e w2 => e = .returned (.int .u64 (beL (((pay.drop 5).drop (i * 8)).take 8) : Nat)) ∧ w2 = w' := by
            intro w' k i hi
            have h9 := numberAt_any bq (oq + 5) (cv - 5) i (pay.drop 5) w' (by rw [hfl]; exact (unhide HFP).old k (by simp)) hi hfl
            rw [hfl] at h9
            exact h9
          have HHF2 := hide (unhide HHF)
          rw [hm0, hm1, hm2, hwz] at HHF2
          have Hm0 := hide (by rw [← hm0]; rfl : m0 = beL (((pay.drop 5).drop (0 * 8)).take 8))
          have Hm1 := hide (by rw [← hm1, List.drop_drop] : m1 = beL (((pay.drop 5).drop (1 * 8)).take 8))
          have Hm2 := hide (by rw [← hm2, List.drop_drop] : m2 = beL (((pay.drop 5).drop (2 * 8)).take 8))
          have HPH := hide (by unfold payH; rw [hm0, hwz, unhide HPL]; simp [hpre] : payH pl pay = decide (m0 = pl ∧ 1 ≤ wz ∧ wz ≤ 32))
          clear hm0 hm1 hm2 hwz hfl HHF
          go_upto_region 7 with fail
          refine wp_sh13 (by kernel_rfl) (by kernel_rfl) (by kernel_rfl) (by kernel_rfl) (by kernel_rfl) (by kernel_rfl) (by kernel_rfl) (by kernel_rfl) (by kernel_rfl) (by kernel_rfl) (by kernel_rfl) (by kernel_rfl) (by kernel_rfl) (by kernel_rfl) (by kernel_rfl) (by kernel_rfl) (by kernel_rfl) (by kernel_rfl) (by kernel_rfl) (by kernel_rfl) (by kernel_rfl) (by kernel_rfl) (by kernel_rfl) (by kernel_rfl) (by kernel_rfl) (by kernel_rfl) (by kernel_rfl) (by kernel_rfl) (by kernel_rfl) rfl rfl rfl rfl rfl (by simp) (by simp) (by simp) (by simp)
            (.slice (some ⟨bq, oq + 5, none⟩) 25 (cv - 5)) (.slice (some ⟨bq, oq + 5, none⟩) 25 (cv - 5)) (.slice (some ⟨bq, oq + 5, none⟩) 25 (cv - 5)) (.slice (some ⟨bq, oq + 5, none⟩) 25 (cv - 5)) (.pointer (some ⟨bq, oq + 5 + 24, none⟩)) (.int .u8 (wz : Int)) (.int .i64 (wz : Int)) _ _ _ _ _ _ _
            (fun w' => w'.cell? ⟨bq, oq + 5 + 24, none⟩ = some (.int .u8 (wz : Int)))
            (fun  w' => Kept [] W3 w') (fun u1 w' => u1 = .int .u64 (m0 : Int) ∧ Kept [] W3 w') (fun u11 w' => Kept [] W3 w' ∧ Ald W3 u11 #[.int .u64 0, .int .u64 0, .int .u64 0, .int .i64 0] w') (fun u1 u3 w' => u1 = .int .u64 (m0 : Int) ∧ u3 = .int .u64 (m1 : Int) ∧ Kept [] W3 w') (fun u1 u11 w' => u1 = .int .u64 (m0 : Int) ∧ Kept [] W3 w' ∧ Ald W3 u11 #[.int .u64 0, .int .u64 0, .int .u64 0, .int .i64 0] w') (fun u1 u3 u5 w' => u1 = .int .u64 (m0 : Int) ∧ u3 = .int .u64 (m1 : Int) ∧ u5 = .int .u64 (m2 : Int) ∧ Kept [] W3 w') (fun u1 u3 u11 w' => u1 = .int .u64 (m0 : Int) ∧ u3 = .int .u64 (m1 : Int) ∧ Kept [] W3 w' ∧ Ald W3 u11 #[.int .u64 0, .int .u64 0, .int .u64 0, .int .i64 0] w') (fun u1 u3 u5 u11 w' => u1 = .int .u64 (m0 : Int) ∧ u3 = .int .u64 (m1 : Int) ∧ u5 = .int .u64 (m2 : Int) ∧ Kept [] W3 w' ∧ Ald W3 u11 #[.int .u64 0, .int .u64 0, .int .u64 0, .int .i64 0] w') (fun u1 u3 u5 u11 u12 w' => u1 = .int .u64 (m0 : Int) ∧ u3 = .int .u64 (m1 : Int) ∧ u5 = .int .u64 (m2 : Int) ∧ Kept [] W3 w' ∧ Ald W3 u11 #[.int .u64 (m0 : Int), .int .u64 (m1 : Int), .int .u64 (m2 : Int), .int .i64 (wz : Int)] w')
            (fun u1 u3 u5 => .agg #[u1, u3, u5, .int .i64 (wz : Int)])
            (by simp only [Act.put, List.setIfInBounds_toArray, List.set_cons_zero, List.set_cons_succ]; rfl) (by exact Or.inl ⟨by rfl, fun W' hW' => by go_simp⟩)
            (by simp only [Act.put, List.setIfInBounds_toArray, List.set_cons_zero, List.set_cons_succ]; rfl) (by exact Or.inl ⟨by rfl, fun W' hW' => by go_simp⟩)
            (by simp only [Act.put, List.setIfInBounds_toArray, List.set_cons_zero, List.set_cons_succ]; rfl) (by exact Or.inl ⟨by rfl, fun W' hW' => by go_simp⟩)
            (by simp only [Act.put, List.setIfInBounds_toArray, List.set_cons_zero, List.set_cons_succ]; rfl) (by exact Or.inl ⟨by rfl, fun W' hW' => by go_simp⟩)
            (by simp only [Act.put, List.setIfInBounds_toArray, List.set_cons_zero, List.set_cons_succ]; rfl) (by exact Or.inl ⟨by rfl, fun W' hW' => by go_simp⟩)
            (by simp only [Act.put, List.setIfInBounds_toArray, List.set_cons_zero, List.set_cons_succ]; rfl) (by exact Or.inl ⟨by rfl, fun W' hW' => run_load1 5 _ rfl ⟨bq, oq + 5 + 24, none⟩ rfl W' _ .u8 Tryz.underlying5 hW'⟩)
            (by simp only [Act.put, List.setIfInBounds_toArray, List.set_cons_zero, List.set_cons_succ]; rfl) (by exact Or.inl ⟨by rfl, fun W' hW' => by go_simp; exact wrap_small hwl⟩)
            ((Kept.refl [] W3).drew)
            ⟨fun  w' h => (h).cell (unhide HC24) (by simp), fun u1 w' h => (h.2).cell (unhide HC24) (by simp), fun u11 w' h => (h.1).cell (unhide HC24) (by simp), fun u1 u3 w' h => (h.2.2).cell (unhide HC24) (by simp), fun u1 u11 w' h => (h.2.1).cell (unhide HC24) (by simp), fun u1 u3 u5 w' h => (h.2.2.2).cell (unhide HC24) (by simp), fun u1 u3 u11 w' h => (h.2.2.1).cell (unhide HC24) (by simp), fun u1 u3 u5 u11 w' h => (h.2.2.2.1).cell (unhide HC24) (by simp), fun u1 u3 u5 u11 u12 w' h => (h.2.2.2.1).cell (unhide HC24) (by simp)⟩
            (by
              rintro w' k K hK
              refine wp_callN rfl Tryz.call115 [.slice (some ⟨bq, oq + 5, none⟩) 25 (cv - 5), .int .i64 0] rfl (hnum w' k 0 (by decide)) ?_
              rintro e w2 ⟨rfl, rfl⟩
              exact ⟨_, rfl, hK _ _ (⟨by rw [← unhide Hm0], k⟩)⟩) (by
              rintro w' k K hK
              exact wp_allochead rfl (hK _ _ ⟨k.alloc _, ald_new k⟩)) (by
              rintro u1 w' ⟨rfl, k⟩ K hK
              refine wp_callN rfl Tryz.call115 [.slice (some ⟨bq, oq + 5, none⟩) 25 (cv - 5), .int .i64 1] rfl (hnum w' k 1 (by decide)) ?_
              rintro e w2 ⟨rfl, rfl⟩
              exact ⟨_, rfl, hK _ _ (⟨rfl, by rw [← unhide Hm1], k⟩)⟩) (by
              rintro u1 w' ⟨rfl, k⟩ K hK
              exact wp_allochead rfl (hK _ _ ⟨rfl, k.alloc _, ald_new k⟩)) (by
              rintro u11 w' ⟨k, al⟩ K hK
              refine wp_callN rfl Tryz.call115 [.slice (some ⟨bq, oq + 5, none⟩) 25 (cv - 5), .int .i64 0] rfl (hnum w' k 0 (by decide)) ?_
              rintro e w2 ⟨rfl, rfl⟩
              exact ⟨_, rfl, hK _ _ (⟨by rw [← unhide Hm0], k, al⟩)⟩) (by
              rintro u1 u3 w' ⟨rfl, rfl, k⟩ K hK
              refine wp_callN rfl Tryz.call115 [.slice (some ⟨bq, oq + 5, none⟩) 25 (cv - 5), .int .i64 2] rfl (hnum w' k 2 (by decide)) ?_
              rintro e w2 ⟨rfl, rfl⟩
              exact ⟨_, rfl, hK _ _ (⟨rfl, rfl, by rw [← unhide Hm2], k⟩)⟩) (by
              rintro u1 u3 w' ⟨rfl, rfl, k⟩ K hK
              exact wp_allochead rfl (hK _ _ ⟨rfl, rfl, k.alloc _, ald_new k⟩)) (by
              rintro u1 u11 w' ⟨rfl, k, al⟩ K hK
              refine wp_callN rfl Tryz.call115 [.slice (some ⟨bq, oq + 5, none⟩) 25 (cv - 5), .int .i64 1] rfl (hnum w' k 1 (by decide)) ?_
              rintro e w2 ⟨rfl, rfl⟩
              exact ⟨_, rfl, hK _ _ (⟨rfl, by rw [← unhide Hm1], k, al⟩)⟩) (by
              rintro u1 u3 u5 w' ⟨rfl, rfl, rfl, k⟩ K hK
              exact wp_allochead rfl (hK _ _ ⟨rfl, rfl, rfl, k.alloc _, ald_new k⟩)) (by
              rintro u1 u3 u11 w' ⟨rfl, rfl, k, al⟩ K hK
              refine wp_callN rfl Tryz.call115 [.slice (some ⟨bq, oq + 5, none⟩) 25 (cv - 5), .int .i64 2] rfl (hnum w' k 2 (by decide)) ?_
              rintro e w2 ⟨rfl, rfl⟩
              exact ⟨_, rfl, hK _ _ (⟨rfl, rfl, by rw [← unhide Hm2], k, al⟩)⟩)
            (by
              rintro u1 u3 u5 u11 w' ⟨rfl, rfl, rfl, k, g, rfl, hg, hh⟩ K hK
              simp only [Act.put, List.setIfInBounds_toArray, List.set_cons_zero, List.set_cons_succ] at hK ⊢
              have hk2 := hK undef _ ⟨trivial, trivial, trivial, Kept.setRow k (Or.inr hg) #[.int .u64 (m0 : Int), .int .u64 (m1 : Int), .int .u64 (m2 : Int), .int .i64 (wz : Int)], g, rfl, hg, setRow_heap _ _ _ _ _ _ hh⟩
              clear hK
              exact wp_store_row 81 (.tmp 10) (.tmp 47) rfl g #[.int .u64 (m0 : Int), .int .u64 (m1 : Int), .int .u64 (m2 : Int), .int .i64 (wz : Int)] rfl rfl 81 #[.int .u64 0, .int .u64 0, .int .u64 0, .int .i64 0] hh Tryz.size_head rfl (by simp [Value.oneCell']) hk2)
            (by rintro u1 u3 u5 w' ⟨rfl, rfl, rfl, k⟩; exact Or.inl ⟨by rfl, fun W' hW' => by go_simp⟩)
            (by rintro u1 u3 u5 u11 w' ⟨rfl, rfl, rfl, k, al⟩; exact Or.inl ⟨by rfl, fun W' hW' => by go_simp⟩)
            ?_
          rintro u1 u3 u5 u11 u12 w5 ⟨rfl, rfl, rfl, k5, g, rfl, hg, hh⟩
          simp only [Act.put, List.setIfInBounds_toArray, List.set_cons_zero, List.set_cons_succ]
          have HGK := hide (k5.heap (unhide HF3) (by simp))
          have HZ5 := hide (k5.heap (unhide HZ3) (by simp))
          have HK5 := hide ((unhide HKW3).trans k5 (by simp))
          have HG5 := hide hh
          have hgn : w.heap.size ≠ g := by
            have := (unhide HKW3).size; have := lt_of_block (unhide HZ3); omega
          have HGN := hide hgn
          clear k5 hh hgn hg d0 d1 d2 d3 f0 f1 f2 f3 hnum HK3 HR3 HZ3 HF3 HKW3 HNW3
          obtain ⟨d0, d1, d2, d3⟩ := hcells (unhide HZ5)
          obtain ⟨f0, f1, f2, f3⟩ := hfroz (unhide HZ5)
          obtain ⟨x0, x1, x2, x3⟩ := hcells (unhide HG5)
          have g0 : w5.cell? ⟨w1.heap.size, 0, none⟩ = some (.int .u64 (pl : Int)) := by rw [cell_of_row _ _ _ _ _ _ (unhide HGK)]; rfl
          by_cases hpm : m0 = pl
          · have hne : ((m0 : Int) != (pl : Int)) = false := by simp [hpm]
            go_wp2_with fail
            refine Calls.mono (isWidth_any (wz : Int) _) ?_
            rintro e w6 ⟨rfl, hw6⟩
            subst w6
            have HWD := hide (by unfold wideB; simp only [decide_eq_decide]; omega : wideB (wz : Int) = decide (1 ≤ wz ∧ wz ≤ 32))
            by_cases hwd : wideB (wz : Int) = true
            · rw [hwd]
              have HV := hide (unhide HYE _ (by rw [unhide HHF2, if_pos (by rw [unhide HPH]; rw [unhide HWD] at hwd; simpa [hpm] using hwd)]))
              go_wp2
              refine bodyPost_ret (v := .tuple #[.agg #[.int .u64 (pl : Int), .int .u64 (m1 : Int), .int .u64 (m2 : Int), .int .i64 (wz : Int)], .int .i64 48, .bool true]) ?_ rfl ⟨by rw [(unhide HV).1, (unhide HV).2.1, (unhide HV).2.2, hpm]; rfl, put4_kept (unhide HK5) w.heap.size (Nat.le_refl _) _ _ _ _⟩
              exact results_cell_tmp2 rfl _ _ w.heap.size _ #[.int .u64 (pl : Int), .int .u64 (m1 : Int), .int .u64 (m2 : Int), .int .i64 (wz : Int)] (0, 0) _ rfl (put4_heap (unhide HZ5) _ _ _ _) Tryz.underlying81 rfl Tryz.size_head _ _ rfl rfl
            · rw [Bool.not_eq_true] at hwd
              rw [hwd]
              have HV := hide (unhide HNO (by rw [unhide HHF2, if_neg (by rw [unhide HPH]; rw [unhide HWD] at hwd; simpa [hpm] using hwd)]))
              go_wp2
              refine bodyPost_ret (v := .tuple #[.agg #[.int .u64 0, .int .u64 0, .int .u64 0, .int .i64 0], .int .i64 0, .bool false]) ?_ rfl ⟨by rw [(unhide HV).1, (unhide HV).2.1, (unhide HV).2.2]; rfl, put4_kept (unhide HK5) w.heap.size (Nat.le_refl _) _ _ _ _⟩
              exact results_cell_tmp2 rfl _ _ w.heap.size _ #[.int .u64 0, .int .u64 0, .int .u64 0, .int .i64 0] (0, 0) _ rfl (put4_heap (unhide HZ5) _ _ _ _) Tryz.underlying81 rfl Tryz.size_head _ _ rfl rfl
          · have hne : ((m0 : Int) != (pl : Int)) = true := by rw [bne_iff_ne]; omega
            have HV := hide (unhide HNO (by rw [unhide HHF2, if_neg (by rw [unhide HPH]; simp [hpm])]))
            go_wp2
            refine bodyPost_ret (v := .tuple #[.agg #[.int .u64 0, .int .u64 0, .int .u64 0, .int .i64 0], .int .i64 0, .bool false]) ?_ rfl ⟨by rw [(unhide HV).1, (unhide HV).2.1, (unhide HV).2.2]; rfl, put4_kept (unhide HK5) w.heap.size (Nat.le_refl _) _ _ _ _⟩
            exact results_cell_tmp2 rfl _ _ w.heap.size _ #[.int .u64 0, .int .u64 0, .int .u64 0, .int .i64 0] (0, 0) _ rfl (put4_heap (unhide HZ5) _ _ _ _) Tryz.underlying81 rfl Tryz.size_head _ _ rfl rfl
        · simp only [List.length_cons, List.length_nil, Nat.zero_add, Nat.reduceAdd, hpre, if_false, decide_false]
          have HV := hide (unhide HNO (by rw [unhide HHF, if_neg]; simp [payH, hpre]))
          go_wp2
          refine bodyPost_ret (v := .tuple #[.agg #[.int .u64 0, .int .u64 0, .int .u64 0, .int .i64 0], .int .i64 0, .bool false]) ?_ rfl ⟨by rw [(unhide HV).1, (unhide HV).2.1, (unhide HV).2.2]; rfl, put4_kept (unhide HKW3) w.heap.size (Nat.le_refl _) _ _ _ _⟩
          exact results_cell_tmp2 rfl _ _ w.heap.size _ #[.int .u64 0, .int .u64 0, .int .u64 0, .int .i64 0] (0, 0) _ rfl (put4_heap (unhide HZ3) _ _ _ _) Tryz.underlying81 rfl Tryz.size_head _ _ rfl rfl
      · have hl30' : ((pay.length : Int) != 30) = true := by rw [bne_iff_ne]; omega
        have HV := hide (unhide HNO (by rw [unhide HHF, if_neg]; simp [payH, hl30]))
        rw [← unhide HW1] at d0 d1 d2 d3 f0 f1 f2 f3 g0 g1
        go_wp2
        rw [unhide HW1]
        refine bodyPost_ret (v := .tuple #[.agg #[.int .u64 0, .int .u64 0, .int .u64 0, .int .i64 0], .int .i64 0, .bool false]) ?_ rfl ⟨by rw [(unhide HV).1, (unhide HV).2.1, (unhide HV).2.2]; rfl, put4_kept (unhide HKW) w.heap.size (Nat.le_refl _) _ _ _ _⟩
        exact results_cell_tmp2 rfl _ _ w.heap.size _ #[.int .u64 0, .int .u64 0, .int .u64 0, .int .i64 0] (0, 0) _ rfl (put4_heap (unhide HZW) _ _ _ _) Tryz.underlying81 rfl Tryz.size_head _ _ rfl rfl
  · have hkd' : (((nextF p 0).kind : Int) != 1) = true := by rw [bne_iff_ne]; omega
    have HV := hide (unhide HNO (unhide HNK hkd))
    clear hcase
    rw [← unhide HW1] at d0 d1 d2 d3 f0 f1 f2 f3 g0 g1
    go_wp2
    rw [unhide HW1]
    refine bodyPost_ret (v := .tuple #[.agg #[.int .u64 0, .int .u64 0, .int .u64 0, .int .i64 0], .int .i64 0, .bool false]) ?_ rfl ⟨by rw [(unhide HV).1, (unhide HV).2.1, (unhide HV).2.2]; rfl, put4_kept (unhide HKW) w.heap.size (Nat.le_refl _) _ _ _ _⟩
    exact results_cell_tmp2 rfl _ _ w.heap.size _ #[.int .u64 0, .int .u64 0, .int .u64 0, .int .i64 0] (0, 0) _ rfl (put4_heap (unhide HZW) _ _ _ _) Tryz.underlying81 rfl Tryz.size_head _ _ rfl rfl
end Go.Proofs.YtejchncdimcdbaaGreatDoor
namespace Go.Proofs.YtejchncdimcdbaaGreatDoor
open Go.RowKit Go.BigFrame
set_option linter.unusedVariables false
set_option linter.unusedSimpArgs false

/-- Does a frame stand at z whose batch has the index i? -/
def rbOk (p : List Nat) (z : Int) (i : Nat) : Bool := decide ((nextF p z).kind = 1 ∧ (nextF p z).pl = i ∧ (decB (nextF p z).pay).2.2 = 0 ∧ (decB (nextF p z).pay).1 = i)
def rbF (p : List Nat) (z : Int) (i : Nat) : Nat := if rbOk p z i then i else 0
def rbN (p : List Nat) (z : Int) (i : Nat) : Int := if rbOk p z i then (nextF p z).next else 0
def rbE (p : List Nat) (z : Int) (i : Nat) : List En := if rbOk p z i then (decB (nextF p z).pay).2.1 else []
theorem bcells {w : World} {b : Nat} {x0 x1 : Value} {t : TypeId} (h : w.heap[b]? = some (.cells #[x0, x1] t (0, 0))) : w.cell? ⟨b, 0, none⟩ = some x0 ∧ w.cell? ⟨b, 1, none⟩ = some x1 := by
  refine ⟨?_, ?_⟩ <;> rw [cell_of_row _ _ _ _ _ _ h] <;> rfl
theorem bfroz {w : World} {b : Nat} {cs : Array Value} {t : TypeId} (h : w.heap[b]? = some (.cells cs t (0, 0))) : w.frozen? ⟨b, 0, none⟩ = false ∧ w.frozen? ⟨b, 1, none⟩ = false :=
  ⟨frozen_of_row _ _ _ _ _ h, frozen_of_row _ _ _ _ _ h⟩
theorem Tryz.size_batch9 : (Tryz.prog.info? 129).map (·.size) = some 2 := by kernel_rfl
set_option maxRecDepth 100000 in
set_option maxHeartbeats 4000000 in
theorem readBatch_any (v : Value) (p : List Nat) (z : Int) (i : Nat) (w : World) (h : Rd w v p) (hz : -9223372036854775808 ≤ z ∧ z ≤ 9223372036854775807) :
    Calls Tryz.prog 71 #[v, .int .i64 z, .int .u64 i] w fun e w' => ∃ bv, e = .returned (.tuple #[.agg #[.int .u64 (rbF p z i), bv], .int .i64 (rbN p z i), .bool (rbOk p z i)]) ∧ NewN w.heap.size w' bv (rbE p z i) ∧ Kept [] w w' := by
  have H := hide h
  obtain ⟨a1, n1, c1, rfl, hn1, _⟩ := id h
  subst hn1
  clear h
  have HZ0 := hide (heap_alloc_new w (.cells #[.int .u64 0, .slice none 0 0] 129))
  have HK0 := hide ((Kept.refl [] w).alloc (.cells #[.int .u64 0, .slice none 0 0] 129))
  obtain ⟨X, hX⟩ : ∃ X, rbF p z i = X := ⟨_, rfl⟩
  obtain ⟨Y, hY⟩ : ∃ Y, rbN p z i = Y := ⟨_, rfl⟩
  obtain ⟨E, hE⟩ : ∃ E, rbE p z i = E := ⟨_, rfl⟩
  obtain ⟨Z, hZ⟩ : ∃ Z, rbOk p z i = Z := ⟨_, rfl⟩
  rw [hX, hY, hZ, hE]
  have HNO := hide (fun (h0 : rbOk p z i = false) => by
    rw [← hX, ← hY, ← hZ, ← hE]
    exact ⟨by simp [rbF, h0], by simp [rbN, h0], by simp [rbE, h0], h0⟩ : rbOk p z i = false → X = 0 ∧ Y = 0 ∧ E = [] ∧ Z = false)
  have HYE := hide (fun (h0 : rbOk p z i = true) => by
    rw [← hX, ← hY, ← hZ, ← hE]
    exact ⟨by simp [rbF, h0], by simp [rbN, h0], by simp [rbE, h0], h0⟩ : rbOk p z i = true → X = i ∧ Y = (nextF p z).next ∧ E = (decB (nextF p z).pay).2.1 ∧ Z = true)
  have HOK := hide (by unfold rbOk; rfl : rbOk p z i = decide ((nextF p z).kind = 1 ∧ (nextF p z).pl = i ∧ (decB (nextF p z).pay).2.2 = 0 ∧ (decB (nextF p z).pay).1 = i))
  clear hX hY hZ hE
  go_enter Tryz.func71, Tryz.ntmps71
  go_wp2_with fail
  refine Calls.mono (next_any _ p z _ ((unhide H).old (unhide HK0) (by simp)) hz) ?_
  rintro e w1 ⟨v1, rfl, n1, k1⟩
  obtain ⟨av, nv, cv, rfl, hnv, _⟩ := id n1.1
  obtain ⟨N, hN⟩ : ∃ N, nextF p z = N := ⟨_, rfl⟩
  rw [hN] at n1 HYE HOK hnv ⊢
  clear hN
  have HN1 := hide n1.1
  have HZ1 := hide (k1.heap (unhide HZ0) (by simp))
  have HK1 := hide ((unhide HK0).trans k1 (by simp))
  clear n1 k1 hnv
  have HZW := hide (((Kept.refl [] w1).alloc (.cells #[.int .u64 (N.pl : Int), .slice av nv cv] 187)).heap (unhide HZ1) (by simp))
  have HKW := hide ((unhide HK1).alloc (.cells #[.int .u64 (N.pl : Int), .slice av nv cv] 187))
  have HFW := hide (heap_alloc_new w1 (.cells #[.int .u64 (N.pl : Int), .slice av nv cv] 187))
  have HNW := hide ((unhide HN1).old ((Kept.refl [] w1).alloc (.cells #[.int .u64 (N.pl : Int), .slice av nv cv] 187)) (by simp))
  obtain ⟨W1, hW1⟩ : ∃ W, w1.alloc (.cells #[.int .u64 (N.pl : Int), .slice av nv cv] 187) = W := ⟨_, rfl⟩
  rw [hW1] at HZW HKW HFW HNW
  have HW1 := hide hW1
  clear hW1
  obtain ⟨d0, d1⟩ := bcells (unhide HZW)
  obtain ⟨f0, f1⟩ := bfroz (unhide HZW)
  obtain ⟨g0, g1⟩ := bcells (unhide HFW)
  rw [← unhide HW1] at d0 d1 f0 f1 g0 g1
  by_cases hkd : N.kind = 1
  · by_cases hpl : N.pl = i
    · have hkd' : ((N.kind : Int) != 1) = false := by simp [hkd]
      have hpl' : ((N.pl : Int) != (i : Int)) = false := by simp [hpl]
      have HPL := hide hpl
      have HKD := hide hkd
      clear hpl hkd
      go_wp2_with fail
      rw [unhide HW1]
      clear d0 d1 f0 f1 g0 g1
      refine Calls.mono (decodeBatch_any _ N.pay W1 (unhide HNW)) ?_
      rintro e w2 ⟨bv, rfl, nb, k2⟩
      obtain ⟨D, hD⟩ : ∃ D, decB N.pay = D := ⟨_, rfl⟩
      rw [hD] at nb HYE HOK ⊢
      clear hD
      obtain ⟨ab, nbl, cb, _, _, hbv, _⟩ := id nb.rdN
      subst hbv
      have HNB := hide nb
      have HZ2 := hide (k2.heap (unhide HZW) (by simp))
      have HK2 := hide ((unhide HKW).trans k2 (by simp))
      have HL2 := hide (Nat.le_trans (unhide HKW).size (Nat.le_refl _) : w.heap.size ≤ W1.heap.size)
      clear nb k2
      have HZX := hide (((Kept.refl [] w2).alloc (.cells #[.int .u64 (D.1 : Int), .slice ab nbl cb] 129)).heap (unhide HZ2) (by simp))
      have HKX := hide ((unhide HK2).alloc (.cells #[.int .u64 (D.1 : Int), .slice ab nbl cb] 129))
      have HBX := hide (heap_alloc_new w2 (.cells #[.int .u64 (D.1 : Int), .slice ab nbl cb] 129))
      have HNX := hide (((unhide HNB).kept ((Kept.refl [] w2).alloc (.cells #[.int .u64 (D.1 : Int), .slice ab nbl cb] 129)) (by simp)).weak (unhide HL2))
      obtain ⟨W2, hW2⟩ : ∃ W, w2.alloc (.cells #[.int .u64 (D.1 : Int), .slice ab nbl cb] 129) = W := ⟨_, rfl⟩
      rw [hW2] at HZX HKX HBX HNX
      have HW2 := hide hW2
      clear hW2
      obtain ⟨d0, d1⟩ := bcells (unhide HZX)
      obtain ⟨f0, f1⟩ := bfroz (unhide HZX)
      obtain ⟨g0, g1⟩ := bcells (unhide HBX)
      rw [← unhide HW2] at d0 d1 f0 f1 g0 g1
      by_cases he : D.2.2 = 0
      · by_cases hfi : D.1 = i
        · have he' : ((D.2.2 : Int) != 0) = false := by simp [he]
          have hfi' : ((D.1 : Int) != (i : Int)) = false := by simp [hfi]
          have HV := hide (unhide HYE (by rw [unhide HOK]; simp [unhide HKD, unhide HPL, he, hfi]))
          have HFI := hide hfi
          clear hfi he
          go_wp2
          rw [unhide HW2]
          refine bodyPost_ret (v := .tuple #[.agg #[.int .u64 (D.1 : Int), .slice ab nbl cb], .int .i64 N.next, .bool true]) ?_ rfl ⟨.slice ab nbl cb, by rw [(unhide HV).1, (unhide HV).2.1, (unhide HV).2.2.2, unhide HFI], ?_, put2_kept (unhide HKX) w.heap.size (Nat.le_refl _) _ _⟩
          · exact results_cell_tmp2 rfl _ _ w.heap.size _ #[.int .u64 (D.1 : Int), .slice ab nbl cb] (0, 0) _ rfl (put2_heap (unhide HZX) _ _) Tryz.underlying129 rfl Tryz.size_batch9 _ _ rfl rfl
          · rw [(unhide HV).2.2.1]
            refine (unhide HNB).kept (M := [w.heap.size]) ?_ ?_ |>.weak (unhide HL2)
            · rw [← unhide HW2]
              exact (((Kept.refl [w.heap.size] w2).alloc _).setCell (Or.inl (by simp)) _).setCell (Or.inl (by simp)) _
            · have := lt_of_block (unhide HZW); simpa using this
        · have he' : ((D.2.2 : Int) != 0) = false := by simp [he]
          have hfi' : ((D.1 : Int) != (i : Int)) = true := by rw [bne_iff_ne]; omega
          have HV := hide (unhide HNO (by rw [unhide HOK]; simp [hfi]))
          clear hfi he
          go_wp2
          rw [unhide HW2]
          refine bodyPost_ret (v := .tuple #[.agg #[.int .u64 0, .slice none 0 0], .int .i64 0, .bool false]) ?_ rfl ⟨.slice none 0 0, by rw [(unhide HV).1, (unhide HV).2.1, (unhide HV).2.2.2]; rfl, by rw [(unhide HV).2.2.1]; exact (NewN.nil _ _ (put2_kept (unhide HKX) w.heap.size (Nat.le_refl _) _ _).size), put2_kept (unhide HKX) w.heap.size (Nat.le_refl _) _ _⟩
          exact results_cell_tmp2 rfl _ _ w.heap.size _ #[.int .u64 0, .slice none 0 0] (0, 0) _ rfl (put2_heap (unhide HZX) _ _) Tryz.underlying129 rfl Tryz.size_batch9 _ _ rfl rfl
      · have he' : ((D.2.2 : Int) != 0) = true := by rw [bne_iff_ne]; omega
        have HV := hide (unhide HNO (by rw [unhide HOK]; simp [he]))
        clear he
        go_wp2
        rw [unhide HW2]
        refine bodyPost_ret (v := .tuple #[.agg #[.int .u64 0, .slice none 0 0], .int .i64 0, .bool false]) ?_ rfl ⟨.slice none 0 0, by rw [(unhide HV).1, (unhide HV).2.1, (unhide HV).2.2.2]; rfl, by rw [(unhide HV).2.2.1]; exact (NewN.nil _ _ (put2_kept (unhide HKX) w.heap.size (Nat.le_refl _) _ _).size), put2_kept (unhide HKX) w.heap.size (Nat.le_refl _) _ _⟩
        exact results_cell_tmp2 rfl _ _ w.heap.size _ #[.int .u64 0, .slice none 0 0] (0, 0) _ rfl (put2_heap (unhide HZX) _ _) Tryz.underlying129 rfl Tryz.size_batch9 _ _ rfl rfl
    · have hkd' : ((N.kind : Int) != 1) = false := by simp [hkd]
      have hpl' : ((N.pl : Int) != (i : Int)) = true := by rw [bne_iff_ne]; omega
      have HV := hide (unhide HNO (by rw [unhide HOK]; simp [hpl]))
      clear hpl hkd
      go_wp2
      rw [unhide HW1]
      refine bodyPost_ret (v := .tuple #[.agg #[.int .u64 0, .slice none 0 0], .int .i64 0, .bool false]) ?_ rfl ⟨.slice none 0 0, by rw [(unhide HV).1, (unhide HV).2.1, (unhide HV).2.2.2]; rfl, by rw [(unhide HV).2.2.1]; exact (NewN.nil _ _ (put2_kept (unhide HKW) w.heap.size (Nat.le_refl _) _ _).size), put2_kept (unhide HKW) w.heap.size (Nat.le_refl _) _ _⟩
      exact results_cell_tmp2 rfl _ _ w.heap.size _ #[.int .u64 0, .slice none 0 0] (0, 0) _ rfl (put2_heap (unhide HZW) _ _) Tryz.underlying129 rfl Tryz.size_batch9 _ _ rfl rfl
  · have hkd' : ((N.kind : Int) != 1) = true := by rw [bne_iff_ne]; omega
    have HV := hide (unhide HNO (by rw [unhide HOK]; simp [hkd]))
    clear hkd
    go_wp2
    rw [unhide HW1]
    refine bodyPost_ret (v := .tuple #[.agg #[.int .u64 0, .slice none 0 0], .int .i64 0, .bool false]) ?_ rfl ⟨.slice none 0 0, by rw [(unhide HV).1, (unhide HV).2.1, (unhide HV).2.2.2]; rfl, by rw [(unhide HV).2.2.1]; exact (NewN.nil _ _ (put2_kept (unhide HKW) w.heap.size (Nat.le_refl _) _ _).size), put2_kept (unhide HKW) w.heap.size (Nat.le_refl _) _ _⟩
    exact results_cell_tmp2 rfl _ _ w.heap.size _ #[.int .u64 0, .slice none 0 0] (0, 0) _ rfl (put2_heap (unhide HZW) _ _) Tryz.underlying129 rfl Tryz.size_batch9 _ _ rfl rfl
end Go.Proofs.YtejchncdimcdbaaGreatDoor
namespace Go.Proofs.YtejchncdimcdbaaGreatDoor
set_option linter.unusedVariables false
set_option linter.unusedSimpArgs false
end Go.Proofs.YtejchncdimcdbaaGreatDoor
namespace Go.Proofs.YtejchncdimcdbaaGreatDoor
open Go.RowKit
set_option linter.unusedVariables false
set_option linter.unusedSimpArgs false

end Go.Proofs.YtejchncdimcdbaaGreatDoor
namespace Go.Proofs.YtejchncdimcdbaaGreatDoor
open Go.RowKit Go.BigFrame
set_option linter.unusedVariables false
set_option linter.unusedSimpArgs false

theorem batB_lenS {f : Nat} {es : List En} (h : chkB f es = 0) (hf : f < 18446744073709551616) : 0 < (batB f es).length ∧ (batB f es).length ≤ 30000 := by
  obtain ⟨h1, h2, _, h4⟩ := chkB_zero h
  have h5 := entB_len es h4
  have h6 := uv_len f hf
  have h7 := uv_len es.length (by omega)
  have h8 : 0 < (uv f).length := uv_pos f
  unfold batB
  simp only [List.length_append]
  omega
/-- The frame of a batch. -/
def sbB (f : Nat) (es : List En) : List Nat := if chkB f es = 0 then frB f (batB f es) else []
set_option maxRecDepth 100000 in
set_option maxHeartbeats 2000000 in
theorem segBatch_any (f : Nat) (v : Value) (es : List En) (w : World) (hf : f < 18446744073709551616) (h : RdN w v es) :
    Calls Tryz.prog 56 #[.agg #[.int .u64 f, v]] w fun r w' => ∃ v', r = .returned (.tuple #[v', .int .i64 (chkB f es)]) ∧ NewB w w' v' (sbB f es) ∧ Kept [] w w' := by
  have H := hide h
  obtain ⟨a1, n1, c1, _, _, rfl, _⟩ := id h
  clear h
  obtain ⟨B, hB⟩ : ∃ B, sbB f es = B := ⟨_, rfl⟩
  have HBB := hide hB.symm
  rw [hB]
  clear hB
  have HK0 := hide ((Kept.refl [] w).alloc (.cells #[.int .u64 f, .slice a1 n1 c1] 129))
  have HB0 := hide (heap_alloc_new w (.cells #[.int .u64 f, .slice a1 n1 c1] 129))
  obtain ⟨W1, hW1⟩ : ∃ W, w.alloc (.cells #[.int .u64 f, .slice a1 n1 c1] 129) = W := ⟨_, rfl⟩
  rw [hW1] at HK0 HB0
  have HW1 := hide hW1
  clear hW1
  obtain ⟨d0, d1⟩ := bcells (unhide HB0)
  rw [← unhide HW1] at d0 d1
  go_enter Tryz.func56, Tryz.ntmps56
  go_wp2_with fail
  rw [unhide HW1]
  clear d0 d1
  refine Calls.mono (encodeBatch_any f _ es W1 hf ((unhide H).old (unhide HK0))) ?_
  rintro e w2 ⟨v2, rfl, n2, k2⟩
  obtain ⟨a2, l2, c2, rfl, _⟩ := id n2.1
  have HN2 := hide n2
  have HK2 := hide ((unhide HK0).trans k2 (by simp))
  have HB2 := hide (k2.heap (unhide HB0) (by simp))
  clear n2 k2
  by_cases hc : chkB f es = 0
  · have HB := hide (by simp [sbB, hc] : sbB f es = frB f (batB f es))
    have HL := hide (batB_lenS hc hf)
    rw [if_pos hc] at HN2
    rw [hc]
    obtain ⟨d0, d1⟩ := bcells (unhide HB2)
    go_wp2_with fail
    refine Calls.mono (encode_any f _ (batB f es) w2 (unhide HN2).1 hf) ?_
    rintro e w3 ⟨v3, rfl, n3, k3⟩
    rw [encE_good (by have := (unhide HL).1; omega) (by have := (unhide HL).2; omega)]
    rw [encB_good (by have := (unhide HL).1; omega) (by have := (unhide HL).2; omega)] at n3
    have HN3 := hide n3
    have HK3 := hide ((unhide HK2).trans k3 (by simp))
    obtain ⟨a3, l3, c3, rfl, _⟩ := id n3.1
    clear n3 k3 d0 d1
    go_wp2
    go_ret2
    exact ⟨_, by rw [hc]; rfl, by rw [unhide HBB, unhide HB]; exact (unhide HN3).weak (unhide HK2).size, unhide HK3⟩
  · have HB := hide (by simp [sbB, hc] : sbB f es = [])
    have hc' : ((chkB f es : Int) != 0) = true := by rw [bne_iff_ne]; omega
    go_wp2
    go_ret2
    exact ⟨_, rfl, by rw [unhide HBB, unhide HB]; exact NewB.nil _ _, unhide HK2⟩
end Go.Proofs.YtejchncdimcdbaaGreatDoor
namespace Go.Proofs.YtejchncdimcdbaaGreatDoor
open Go.RowKit Go.BigFrame
set_option linter.unusedVariables false
set_option linter.unusedSimpArgs false

theorem results_cell_tmp {P : Program} {fn : Func} {p q : Tmp} {ty : TypeId} (h : fn.results = #[.cell p ty, .tmp q]) (tmps : Array Value) (w : World) (g : Nat) (t : TypeId) (cs : Array Value) (fr : Nat × Nat) (d : TypeDesc)
    (hp : tmps.getD p undef = .pointer (some ⟨g, 0, none⟩)) (hg : w.heap[g]? = some (.cells cs t fr))
    (hu : P.underlying ty = some d) (hd : (match d with | .struct _ | .array _ _ => true | _ => false) = true) (hi : (P.info? ty).map (·.size) = some cs.size) (v : Value) (hq : tmps.getD q undef = v) :
    (results fn tmps).run P w = .ok (.tuple #[.agg cs, v]) w := by
  have hp' : tmps[p]?.getD undef = .pointer (some ⟨g, 0, none⟩) := by simpa using hp
  have hq' : tmps[q]?.getD undef = v := by simpa using hq
  simp [results, h, hp', hq', asAddr, run_loadVar_row w g t ty cs fr d hg hu hd hi]
/-- What a batch reads stays, whatever turns outside its own memory. -/
theorem NewN.stay {B : Nat} {M : List Nat} {w w' : World} {v : Value} {es : List En} (h : NewN B w v es) (k : Kept M w w') (hM : ∀ x ∈ M, x < B ∨ w.heap.size ≤ x) : RdN w' v es := by
  have k2 : Kept (M.filter (· < B)) w w' := ⟨k.os, k.tape, k.output, k.size, fun j hj hn => k.block j hj (fun hm => hn (by
    rw [List.mem_filter]
    refine ⟨hm, ?_⟩
    have := hM j hm
    simp; omega))⟩
  exact (h.kept k2 (fun x hx => by rw [List.mem_filter] at hx; simpa using hx.2)).rdN
/-- The cells of batches. -/
def cellsB (ts : List (Nat × Value × List En)) : List Value := ts.flatMap fun t => [.int .u64 (t.1 : Int), t.2.1]
theorem cellsB_app (ts : List (Nat × Value × List En)) (t : Nat × Value × List En) : cellsB (ts ++ [t]) = cellsB ts ++ [.int .u64 (t.1 : Int), t.2.1] := by simp [cellsB]
theorem Tryz.infoBt : (Tryz.prog.info? 129).map (fun i => (i.zero, i.size, i.bytes)) = some (some (.agg #[.int .u64 0, .slice none 0 0]), 2, 32) := by kernel_rfl
/-- Batches that are owned, each with memory of its own. -/
structure OwnB (w0 w : World) (v : Value) (ts : List (Nat × Value × List En)) : Prop where
  own : w.ownsRow w0.heap.size 129 2 v ts.length (cellsB ts)
  rd : ∀ t ∈ ts, ∃ B C, C ≤ w.heap.size ∧ w0.heap.size ≤ B ∧ (∀ b, v.ownBlock = some b → b < B ∨ C ≤ b) ∧ ∀ M w', Kept M w w' → (∀ x ∈ M, x < B ∨ C ≤ x) → RdN w' t.2.1 t.2.2
  sz : w0.heap.size ≤ w.heap.size
/-- The slice value v reads as these batches. -/
def RdB (w : World) (v : Value) (bs : List (Nat × List En)) : Prop :=
  ∃ (ao : Option Addr) (cap : Nat) (ts : List (Nat × Value × List En)), v = .slice ao ts.length cap ∧ bs = ts.map (fun t => (t.1, t.2.2)) ∧ ts.length ≤ cap ∧ cap ≤ 9223372036854775807 ∧ (∀ t ∈ ts, RdN w t.2.1 t.2.2) ∧
    (0 < ts.length → ∃ b off, ao = some ⟨b, off, none⟩ ∧ ∀ i (h : i < ts.length), w.cell? ⟨b, off + i * 2, none⟩ = some (.int .u64 (ts[i].1 : Int)) ∧ w.cell? ⟨b, off + i * 2 + 1, none⟩ = some ts[i].2.1)
theorem RdB.old {w w' : World} {v : Value} {fs : List (Nat × List En)} (h : RdB w v fs) (k : Kept [] w w') : RdB w' v fs := by
  obtain ⟨ao, cap, ts, h1, h2, h3, h4, h5, h6⟩ := h
  refine ⟨ao, cap, ts, h1, h2, h3, h4, fun t ht => (h5 t ht).old k, fun hp => ?_⟩
  obtain ⟨b, off, e, hc⟩ := h6 hp
  exact ⟨b, off, e, fun i hi => ⟨k.cell (hc i hi).1 (by simp), k.cell (hc i hi).2 (by simp)⟩⟩
theorem RdB.nil (w : World) : RdB w (.slice none 0 0) [] := ⟨none, 0, [], rfl, rfl, Nat.le_refl _, by omega, by simp, fun h => by simp at h⟩
theorem OwnB.start (w : World) : OwnB w w (.slice none 0 0) [] := ⟨World.ownsRow_nil _ _ _ _, by simp, Nat.le_refl _⟩
theorem OwnB.pass {w0 w w' : World} {M : List Nat} {v : Value} {ts : List (Nat × Value × List En)} (h : OwnB w0 w v ts) (k : Kept M w w') (hM : ∀ x ∈ M, x < w0.heap.size) : OwnB w0 w' v ts := by
  refine ⟨k.owns h.own (fun b hb hm => by have := (h.own.lt b hb).1; have := hM b hm; omega), fun t ht => ?_, Nat.le_trans h.sz k.size⟩
  obtain ⟨B, C, h1, h2, h3, h4⟩ := h.rd t ht
  refine ⟨B, C, Nat.le_trans h1 k.size, h2, h3, fun N w2 kN hN => h4 (M ++ N) w2 ((k.mono (M := M ++ N) (fun x hx => by simp [hx])).trans kN (fun x hx => Or.inl (by simp [hx]))) (fun x hx => ?_)⟩
  rcases List.mem_append.1 hx with hx | hx
  · have := hM x hx; omega
  · exact hN x hx
theorem OwnB.push {w0 w W : World} {v : Value} {ts : List (Nat × Value × List En)} (h : OwnB w0 w v ts) {pl B : Nat} {y : Value} {es : List En} (hy : NewN B w y es) (hB : w0.heap.size ≤ B) (hBv : ∀ b, v.ownBlock = some b → b < B) {g cap : Nat}
    (o : W.ownsRow w0.heap.size 129 2 (.slice (some ⟨g, 0, none⟩) (ts.length + 1) cap) (ts.length + 1) (cellsB ts ++ [.int .u64 (pl : Int), y])) (gr : w.grownBy W v.ownBlock) (hg : v.ownBlock = some g ∨ g = w.heap.size) :
    OwnB w0 W (.slice (some ⟨g, 0, none⟩) (ts.length + 1) cap) (ts ++ [(pl, y, es)]) := by
  have kW : Kept v.ownBlock.toList w W := ((Kept.refl _ w)).grown gr (by intro k hk; left; simp [hk])
  refine ⟨by rw [cellsB_app, List.length_append]; exact o, fun t ht => ?_, Nat.le_trans h.sz kW.size⟩
  rcases List.mem_append.1 ht with ht | ht
  · obtain ⟨B1, C, h1, h2, h3, h4⟩ := h.rd t ht
    refine ⟨B1, C, Nat.le_trans h1 kW.size, h2, fun b hb => ?_, fun N w2 kN hN => h4 (v.ownBlock.toList ++ N) w2 ((kW.mono (M := v.ownBlock.toList ++ N) (fun x hx => List.mem_append_left _ hx)).trans kN (fun x hx => Or.inl (by simp [hx]))) (fun x hx => ?_)⟩
    · simp only [Value.ownBlock, Option.some.injEq] at hb
      subst hb
      rcases hg with hg | hg
      · exact h3 _ hg
      · omega
    · rcases List.mem_append.1 hx with hx | hx
      · exact h3 x (by simpa using hx)
      · exact hN x hx
  · rw [List.mem_singleton] at ht
    subst ht
    refine ⟨B, w.heap.size, kW.size, hB, fun b hb => ?_, fun N w2 kN hN => hy.stay (M := v.ownBlock.toList ++ N) ((kW.mono (M := v.ownBlock.toList ++ N) (fun x hx => List.mem_append_left _ hx)).trans kN (fun x hx => Or.inl (by simp [hx]))) (fun x hx => ?_)⟩
    · simp only [Value.ownBlock, Option.some.injEq] at hb
      subst hb
      rcases hg with hg | hg
      · exact Or.inl (hBv _ hg)
      · omega
    · rcases List.mem_append.1 hx with hx | hx
      · exact Or.inl (hBv x (by simpa using hx))
      · exact hN x hx
/-- One batch more. -/
theorem pushB (w : World) (base : Nat) (v : Value) (ts : List (Nat × Value × List En)) (pl : Nat) (x : Value) (H : Nat) (h : w.ownsRow base 129 2 v ts.length (cellsB ts)) (hnew : w.heap[H]? = some (.cells #[.int .u64 (pl : Int), x] 129 (0, 0))) (hx : x.oneCell' = true) (hl : ts.length + 1 ≤ 1000000000000) (hb : base ≤ w.heap.size) :
    ∃ g cap w1, (Builtin.append_ #[46, 46] 46 #[v, .slice (some ⟨H, 0, none⟩) 1 1]).run Tryz.prog w = .ok (.slice (some ⟨g, 0, none⟩) (ts.length + 1) cap) w1 ∧
      w1.ownsRow base 129 2 (.slice (some ⟨g, 0, none⟩) (ts.length + 1) cap) (ts.length + 1) (cellsB ts ++ [.int .u64 (pl : Int), x]) ∧ w.grownBy w1 v.ownBlock ∧ (v.ownBlock = some g ∨ g = w.heap.size) := by
  obtain ⟨i0, hi, hz0, hz1, hz2⟩ := info_parts Tryz.infoBt
  obtain ⟨g, cap, w1, hr, hown, hgrow, hat, hlt⟩ := run_append_lies (P := Tryz.prog) w 46 46 base 129 i0 (.agg #[.int .u64 0, .slice none 0 0]) 2 32 Tryz.underlying46 hi hz0 hz1 hz2 rfl (by decide)
    v ts.length (cellsB ts) h ⟨H, 0, none⟩ 1 1 [.int .u64 (pl : Int), x] rfl (World.news_of_block hnew) (by intro u hu; simp at hu; rcases hu with rfl | rfl; rfl; exact hx) (by decide) (by unfold maxLen; omega) (by omega) hb _ rfl
  exact ⟨g, cap, w1, hr, hown, hgrow, hat⟩
theorem wpList_pushB {ops : Array Oper} {rest : List Oper} {o : Oper} {a : Act} {Q : Exit → Act → World → Prop} (hgd : o.guard = none) (s x : Operand)
    (ho : o.op = .call { callee := .builtin .append, args := #[s, x], argTypes := #[46, 46] }) (hty : o.type = 46)
    (w : World) (base : Nat) (v : Value) (ts : List (Nat × Value × List En)) (pl : Nat) (y : Value) (H : Nat) (h : w.ownsRow base 129 2 v ts.length (cellsB ts)) (hnew : w.heap[H]? = some (.cells #[.int .u64 (pl : Int), y] 129 (0, 0))) (hy : y.oneCell' = true) (hl : ts.length + 1 ≤ 1000000000000) (hb : base ≤ w.heap.size)
    (hs : a.eval s = v) (hx : a.eval x = .slice (some ⟨H, 0, none⟩) 1 1)
    (hK : ∀ g cap w1, Hid (w1.ownsRow base 129 2 (.slice (some ⟨g, 0, none⟩) (ts.length + 1) cap) (ts.length + 1) (cellsB ts ++ [.int .u64 (pl : Int), y])) → Hid (w.grownBy w1 v.ownBlock) → Hid (v.ownBlock = some g ∨ g = w.heap.size) →
      wpList Tryz.prog ops Q rest (a.put o.dst (.slice (some ⟨g, 0, none⟩) (ts.length + 1) cap)) w1) :
    wpList Tryz.prog ops Q (o :: rest) a w := by
  obtain ⟨g, cap, w1, hrun, h2, h3, h4⟩ := pushB w base v ts pl y H h hnew hy hl hb
  refine wpList_plain hgd fun K hK' => ?_
  unfold Oper.wp execOp
  simp only [ho, hty, resolve, invoke, builtin, Sem.run_bind, Sem.run_pure, Result.andThen_ok, List.map_toArray, List.map_cons, List.map_nil, hs, hx, hrun]
  exact hK' _ _ (hK g cap w1 h2 h3 h4)
theorem scells {w : World} {b : Nat} {x0 x1 x2 x3 x4 x5 : Value} {t : TypeId} (h : w.heap[b]? = some (.cells #[x0, x1, x2, x3, x4, x5] t (0, 0))) : w.cell? ⟨b, 0, none⟩ = some x0 ∧ w.cell? ⟨b, 1, none⟩ = some x1 ∧ w.cell? ⟨b, 2, none⟩ = some x2 ∧ w.cell? ⟨b, 3, none⟩ = some x3 ∧ w.cell? ⟨b, 4, none⟩ = some x4 ∧ w.cell? ⟨b, 5, none⟩ = some x5 := by
  refine ⟨?_, ?_, ?_, ?_, ?_, ?_⟩ <;> rw [cell_of_row _ _ _ _ _ _ h] <;> rfl
theorem sfroz {w : World} {b : Nat} {cs : Array Value} {t : TypeId} (h : w.heap[b]? = some (.cells cs t (0, 0))) : w.frozen? ⟨b, 0, none⟩ = false ∧ w.frozen? ⟨b, 1, none⟩ = false ∧ w.frozen? ⟨b, 2, none⟩ = false ∧ w.frozen? ⟨b, 3, none⟩ = false ∧ w.frozen? ⟨b, 4, none⟩ = false ∧ w.frozen? ⟨b, 5, none⟩ = false :=
  ⟨frozen_of_row _ _ _ _ _ h, frozen_of_row _ _ _ _ _ h, frozen_of_row _ _ _ _ _ h, frozen_of_row _ _ _ _ _ h, frozen_of_row _ _ _ _ _ h, frozen_of_row _ _ _ _ _ h⟩
theorem put6_heap {w : World} {g : Nat} {a b c d e f : Value} {t : TypeId} (h : w.heap[g]? = some (.cells #[a, b, c, d, e, f] t (0, 0))) (x y z u r s : Value) : ((((((w.setCell ⟨g, 0, none⟩ x).setCell ⟨g, 1, none⟩ y).setCell ⟨g, 2, none⟩ z).setCell ⟨g, 3, none⟩ u).setCell ⟨g, 4, none⟩ r).setCell ⟨g, 5, none⟩ s).heap[g]? = some (.cells #[x, y, z, u, r, s] t (0, 0)) := by
  rw [heap_setCell_same _ g 5 _ t _ (heap_setCell_same _ g 4 _ t _ (heap_setCell_same _ g 3 _ t _ (heap_setCell_same _ g 2 _ t _ (heap_setCell_same _ g 1 _ t _ (heap_setCell_same w g 0 _ t _ h)))))]; rfl
theorem put6_kept {L : List Nat} {w0 w : World} (k : Kept L w0 w) (g : Nat) (hg : g ∈ L ∨ w0.heap.size ≤ g) (x y z u r s : Value) : Kept L w0 ((((((w.setCell ⟨g, 0, none⟩ x).setCell ⟨g, 1, none⟩ y).setCell ⟨g, 2, none⟩ z).setCell ⟨g, 3, none⟩ u).setCell ⟨g, 4, none⟩ r).setCell ⟨g, 5, none⟩ s) := (((((k.setCell hg x).setCell hg y).setCell hg z).setCell hg u).setCell hg r).setCell hg s
theorem Tryz.size_seg : (Tryz.prog.info? 83).map (·.size) = some 6 := by kernel_rfl
theorem put45_heap {w : World} {g : Nat} {a b c d e f : Value} {t : TypeId} (h : w.heap[g]? = some (.cells #[a, b, c, d, e, f] t (0, 0))) (r s : Value) : ((w.setCell ⟨g, 4, none⟩ r).setCell ⟨g, 5, none⟩ s).heap[g]? = some (.cells #[a, b, c, d, r, s] t (0, 0)) := by
  rw [heap_setCell_same _ g 5 _ t _ (heap_setCell_same _ g 4 _ t _ h)]; rfl
/-- The batches from the place z on, the next index being i, and where they end. -/
def rdL : Nat → List Nat → Nat → Nat → List (Nat × List En) × Nat
  | 0, _, z, _ => ([], z)
  | k + 1, p, z, i => if rbOk p z i then ((i, rbE p z i) :: (rdL k p (rbN p z i).toNat ((i + (rbE p z i).length) % 18446744073709551616)).1, (rdL k p (rbN p z i).toNat ((i + (rbE p z i).length) % 18446744073709551616)).2) else ([], z)
theorem rdL_no {k z i : Nat} {p : List Nat} (h : rbOk p z i = false) : rdL k p z i = ([], z) := by
  cases k with
  | zero => rfl
  | succ k => rw [rdL, h]; rfl
theorem rdL_yes {k z i : Nat} {p : List Nat} (h : rbOk p z i = true) : rdL (k + 1) p z i = ((i, rbE p z i) :: (rdL k p (rbN p z i).toNat ((i + (rbE p z i).length) % 18446744073709551616)).1, (rdL k p (rbN p z i).toNat ((i + (rbE p z i).length) % 18446744073709551616)).2) := by
  rw [rdL, if_pos h]
/-- What Read answers. -/
def sgB (p : List Nat) : List (Nat × List En) := if (hdF p).isSome then (rdL p.length p 48 (hdC p).c).1 else []
def sgU (p : List Nat) : Nat := if (hdF p).isSome then (rdL p.length p 48 (hdC p).c).2 else 0
def sgE (p : List Nat) : Nat := if (hdF p).isSome then 0 else 3
theorem rb_next {p : List Nat} {z i : Nat} (hb : ∀ x ∈ p, x < 256) (h : rbOk p z i = true) : ∃ n : Nat, rbN p z i = (n : Int) ∧ z + 18 < n ∧ n ≤ p.length := by
  have hn : rbN p z i = (nextF p z).next := by simp [rbN, h]
  have hk : (nextF p z).kind = 1 := by unfold rbOk at h; simp at h; exact h.1
  rcases nextF_cases p z hb with ⟨_, hN⟩ | ⟨_, hN⟩ | ⟨m, pl, pay, hzn, hN, b1, b2, b3, b4, b5, b6, b7⟩
  · rw [hN] at hk; simp at hk
  · rw [hN] at hk; simp at hk
  · rw [hN] at hn
    refine ⟨m + 18 + pay.length, hn, by omega, b5⟩
end Go.Proofs.YtejchncdimcdbaaGreatDoor
namespace Go.Proofs.YtejchncdimcdbaaGreatDoor
open Go.RowKit Go.BigFrame
set_option linter.unusedVariables false
set_option linter.unusedSimpArgs false

end Go.Proofs.YtejchncdimcdbaaGreatDoor
namespace Go.Proofs.YtejchncdimcdbaaGreatDoor
open Go.RowKit Go.BigFrame
set_option linter.unusedVariables false
set_option linter.unusedSimpArgs false

end Go.Proofs.YtejchncdimcdbaaGreatDoor
namespace Go.Proofs.YtejchncdimcdbaaGreatDoor
open Go.RowKit Go.BigFrame
set_option linter.unusedVariables false
set_option linter.unusedSimpArgs false

end Go.Proofs.YtejchncdimcdbaaGreatDoor
namespace Go.Proofs.YtejchncdimcdbaaGreatDoor
open Go.RowKit Go.BigFrame
set_option linter.unusedVariables false
set_option linter.unusedSimpArgs false

/-- What Number answers. -/
def nbU (l : List Nat) : Nat := if l = nmL (dv 0 (l.drop 4)) then dv 0 (l.drop 4) else 0
def nbE (l : List Nat) : Nat := if l = nmL (dv 0 (l.drop 4)) then 0 else 3
theorem number_all (l : List Nat) (w : World) (hb : ∀ x ∈ l, x < 256) (hl : l.length ≤ 140737488355328) (hv : VarsS w) :
    Calls Tryz.prog 83 #[.string (strB l)] w fun e w' => e = .returned (.tuple #[.int .u64 (nbU l), .int .i64 (nbE l)]) ∧ Kept [] w w' := by
  by_cases h : l = nmL (dv 0 (l.drop 4))
  · have h1 : nbU l = dv 0 (l.drop 4) := if_pos h
    have h2 : nbE l = 0 := if_pos h
    have h3 := number_yes (dv 0 (l.drop 4)) w (dv_lt _ 0 (by omega)) hv
    rw [← h] at h3
    rw [h1, h2]
    exact h3
  · have h1 : nbU l = 0 := if_neg h
    have h2 : nbE l = 3 := if_neg h
    rw [h1, h2]
    refine number_no (strB l) w (by rw [strB_size]; exact hl) (fun u hu e => h ?_) hv
    have e2 := strB_inj hb (nmL_byte u) e
    have e3 : dv 0 (l.drop 4) = u := by rw [e2]; exact dv_name hu
    rw [e3]
    exact e2
end Go.Proofs.YtejchncdimcdbaaGreatDoor
namespace Go.Proofs.YtejchncdimcdbaaGreatDoor
open Go.RowKit Go.BigFrame
set_option linter.unusedVariables false
set_option linter.unusedSimpArgs false

theorem OwnB.base {w0 w1 w : World} {v : Value} {ts : List (Nat × Value × List En)} (h : OwnB w1 w v ts) (hb : w0.heap.size ≤ w1.heap.size) : OwnB w0 w v ts := by
  refine ⟨owns_base h.own hb, fun t ht => ?_, Nat.le_trans hb h.sz⟩
  obtain ⟨B, C, h1, h2, h3, h4⟩ := h.rd t ht
  exact ⟨B, C, h1, Nat.le_trans hb h2, h3, h4⟩
theorem OwnB.empty {w0 w : World} (h : w0.heap.size ≤ w.heap.size) : OwnB w0 w (.slice none 0 0) [] := ⟨World.ownsRow_nil _ _ _ _, by simp, h⟩
set_option maxRecDepth 100000 in
set_option maxHeartbeats 4000000 in
theorem readO_any (v : Value) (p : List Nat) (w : World) (h : Rd w v p) (hl : p.length ≤ 100000000000) :
    Calls Tryz.prog 34 #[v] w fun e w' => ∃ bv, e = .returned (.tuple #[.agg #[.int .u64 (hdC p).a, .int .u64 (hdC p).b, .int .u64 (hdC p).c, .int .i64 (hdC p).d, bv, .int .i64 (sgU p)], .int .i64 (sgE p)]) ∧ (∃ ts, sgB p = ts.map (fun t => (t.1, t.2.2)) ∧ OwnB w w' bv ts) ∧ Kept [] w w' := by
  have H := hide h
  obtain ⟨a1, n1, c1, rfl, hn1, _⟩ := id h
  subst hn1
  clear h
  have HZ0 := hide (heap_alloc_new w (.cells #[.int .u64 0, .int .u64 0, .int .u64 0, .int .i64 0, .slice none 0 0, .int .i64 0] 83))
  have HK0 := hide ((Kept.refl [] w).alloc (.cells #[.int .u64 0, .int .u64 0, .int .u64 0, .int .i64 0, .slice none 0 0, .int .i64 0] 83))
  have HLP := hide hl
  obtain ⟨X, hX⟩ : ∃ X, hdC p = X := ⟨_, rfl⟩
  obtain ⟨T, hT⟩ : ∃ T, rdL p.length p 48 X.c = T := ⟨_, rfl⟩
  obtain ⟨U, hU⟩ : ∃ U, sgU p = U := ⟨_, rfl⟩
  obtain ⟨S, hS⟩ : ∃ S, sgB p = S := ⟨_, rfl⟩
  obtain ⟨E, hE⟩ : ∃ E, sgE p = E := ⟨_, rfl⟩
  rw [hX, hU, hS, hE]
  have HNO := hide (fun (h0 : (hdF p).isSome = false) => by
    rw [← hU, ← hS, ← hE]
    exact ⟨by rw [← hX]; rw [Option.isSome_eq_false_iff, Option.isNone_iff_eq_none] at h0; simp [hdC, h0], by simp [sgU, h0], by simp [sgB, h0], by simp [sgE, h0]⟩ : (hdF p).isSome = false → X = ⟨0, 0, 0, 0⟩ ∧ U = 0 ∧ S = [] ∧ E = 3)
  have HYE := hide (fun (h0 : (hdF p).isSome = true) => by
    rw [← hU, ← hS, ← hE, ← hT, ← hX]
    exact ⟨by simp [sgU, h0], by simp [sgB, h0], by simp [sgE, h0]⟩ : (hdF p).isSome = true → U = T.2 ∧ S = T.1 ∧ E = 0)
  have HT := hide hT
  have HN48 := hide (by simp [hdN] : hdN p = if (hdF p).isSome then 48 else 0)
  clear hT hU hS hE hl
  go_enter Tryz.func34, Tryz.ntmps34
  go_wp2_with fail
  refine Calls.mono (readHead_any _ p _ ((unhide H).old (unhide HK0) (by simp))) ?_
  rintro e w1 ⟨rfl, k1⟩
  rw [hX, unhide HN48]
  clear hX
  have HZ1 := hide (k1.heap (unhide HZ0) (by simp))
  have HK1 := hide ((unhide HK0).trans k1 (by simp))
  clear k1
  have HHW := hide (heap_alloc_new w1 (.cells #[.int .u64 (X.a : Int), .int .u64 (X.b : Int), .int .u64 (X.c : Int), .int .i64 (X.d : Int)] 81))
  have HKW := hide ((unhide HK1).alloc (.cells #[.int .u64 (X.a : Int), .int .u64 (X.b : Int), .int .u64 (X.c : Int), .int .i64 (X.d : Int)] 81))
  have HZW := hide (((Kept.refl [] w1).alloc (.cells #[.int .u64 (X.a : Int), .int .u64 (X.b : Int), .int .u64 (X.c : Int), .int .i64 (X.d : Int)] 81)).heap (unhide HZ1) (by simp))
  obtain ⟨W1, hW1⟩ : ∃ W, w1.alloc (.cells #[.int .u64 (X.a : Int), .int .u64 (X.b : Int), .int .u64 (X.c : Int), .int .i64 (X.d : Int)] 81) = W := ⟨_, rfl⟩
  rw [hW1] at HHW HKW HZW
  have HW1 := hide hW1
  clear hW1
  obtain ⟨d0, d1, d2, d3, d4, d5⟩ := scells (unhide HZW)
  obtain ⟨f0, f1, f2, f3, f4, f5⟩ := sfroz (unhide HZW)
  obtain ⟨g0, g1, g2, g3⟩ := hcells (unhide HHW)
  rw [← unhide HW1] at d0 d1 d2 d3 d4 d5 f0 f1 f2 f3 f4 f5 g0 g1 g2 g3
  by_cases hok : (hdF p).isSome = true
  · rw [hok]
    simp only [if_true]
    rw [show ((48 : Nat) : Int) = 48 from rfl]
    have HV := hide (unhide HYE hok)
    clear hok HYE HNO HN48
    have HS0 := hide (heap_alloc_new W1 (.cells #[.int .u64 (X.a : Int), .int .u64 (X.b : Int), .int .u64 (X.c : Int), .int .i64 (X.d : Int), .slice none 0 0, .int .i64 48] 83))
    have HKS := hide ((Kept.refl [] W1).alloc (.cells #[.int .u64 (X.a : Int), .int .u64 (X.b : Int), .int .u64 (X.c : Int), .int .i64 (X.d : Int), .slice none 0 0, .int .i64 48] 83))
    have HSZ := hide (by rw [← unhide HW1]; simp : W1.heap.size = w1.heap.size + 1)
    rw [unhide HSZ] at HS0
    go_wp2_with fail
    rw [unhide HW1]
    have HZS := hide ((unhide HKS).heap (unhide HZW) (by simp))
    have HKw := hide ((unhide HKW).trans (unhide HKS) (by simp))
    have HLT := hide (by have := lt_of_block (unhide HZ1); omega : w.heap.size < w1.heap.size + 1)
    obtain ⟨W2, hW2⟩ : ∃ W, W1.alloc (.cells #[.int .u64 (X.a : Int), .int .u64 (X.b : Int), .int .u64 (X.c : Int), .int .i64 (X.d : Int), .slice none 0 0, .int .i64 48] 83) = W := ⟨_, rfl⟩
    have HS2 := hide (by rw [← hW2]; simp [unhide HSZ] : W2.heap.size = w1.heap.size + 1 + 1)
    rw [hW2] at HS0 HKS HZS HKw ⊢
    clear hW2 d0 d1 d2 d3 d4 d5 f0 f1 f2 f3 f4 f5 g0 g1 g2 g3 HKS
    go_loopw [8] (fun t8 wr => ∃ (n f i : Nat) (bv : Value) (ts : List (Nat × Value × List En)), t8 = .int .u64 (i : Int) ∧ Hid (n ≤ p.length + 48 ∧ p.length ≤ n + f ∧ ts.length ≤ n) ∧ Hid (T = (ts.map (fun t => (t.1, t.2.2)) ++ (rdL f p n i).1, (rdL f p n i).2)) ∧ Hid (wr.heap[w1.heap.size + 1]? = some (.cells #[.int .u64 (X.a : Int), .int .u64 (X.b : Int), .int .u64 (X.c : Int), .int .i64 (X.d : Int), bv, .int .i64 (n : Int)] 83 (0, 0))) ∧ Hid (OwnB W2 wr bv ts) ∧ Hid (Kept [] w wr) ∧ Hid (wr.heap[w.heap.size]? = some (.cells #[.int .u64 0, .int .u64 0, .int .u64 0, .int .i64 0, .slice none 0 0, .int .i64 0] 83 (0, 0)))) (fun _ wr => p.length - (intOf ((wr.cell? ⟨w1.heap.size + 1, 5, none⟩).getD undef)).toNat)
    case atStart => exact ⟨48, p.length, X.c, .slice none 0 0, [], rfl, hide ⟨by omega, by omega, by simp⟩, hide (by rw [unhide HT]; simp), HS0, hide (OwnB.start _), HKw, HZS⟩
    case round =>
      obtain ⟨n, f, i, bv, ts, rfl, HN, HR, HS, HO, HK, HZ⟩ := hrel
      obtain ⟨s0, s1, s2, s3, s4, s5⟩ := scells (unhide HS)
      have HC5 := hide s5
      go_wp2_with fail
      refine Calls.mono (readBatch_any _ p (n : Int) i wr ((unhide H).old (unhide HK) (by simp)) (by have := (unhide HN).1; have := unhide HLP; omega)) ?_
      rintro e w3 ⟨b3, rfl, nb, k3⟩
      obtain ⟨a3, n3, c3, _, _, hb3, hl3, _⟩ := id nb.rdN
      subst hb3
      have HL3 := hide hl3
      have HNB := hide nb
      have HSB := hide (k3.size)
      have HO3 := hide ((unhide HO).pass k3 (by simp))
      have HS3 := hide (k3.heap (unhide HS) (by simp))
      have HZ3 := hide (k3.heap (unhide HZ) (by simp))
      have HK3 := hide ((unhide HK).trans k3 (by simp))
      have HBB := hide (fun b hb => ((unhide HO).own.lt b hb).2 : ∀ b, bv.ownBlock = some b → b < wr.heap.size)
      have HWB := hide ((unhide HO).sz)
      clear k3 nb s0 s1 s2 s3 s4 s5 hl3 HS HO HK HZ
      obtain ⟨R, hRR⟩ : ∃ R, rbF p (n : Int) i = R := ⟨_, rfl⟩
      obtain ⟨V, hVV⟩ : ∃ V, rbN p (n : Int) i = V := ⟨_, rfl⟩
      rw [hRR, hVV]
      have HBW := hide (heap_alloc_new w3 (.cells #[.int .u64 (R : Int), .slice a3 n3 c3] 129))
      have KA := hide ((Kept.refl [] w3).alloc (.cells #[.int .u64 (R : Int), .slice a3 n3 c3] 129))
      obtain ⟨W4, hW4⟩ : ∃ W, w3.alloc (.cells #[.int .u64 (R : Int), .slice a3 n3 c3] 129) = W := ⟨_, rfl⟩
      rw [hW4] at HBW KA
      have HW4 := hide hW4
      clear hW4
      have HS4 := hide ((unhide KA).heap (unhide HS3) (by simp))
      have HZ4 := hide ((unhide KA).heap (unhide HZ3) (by simp))
      obtain ⟨s0, s1, s2, s3, s4, s5⟩ := scells (unhide HS4)
      obtain ⟨g0, g1⟩ := bcells (unhide HBW)
      obtain ⟨z0, z1, z2, z3, z4, z5⟩ := scells (unhide HZ4)
      obtain ⟨f0, f1, f2, f3, f4, f5⟩ := sfroz (unhide HZ4)
      rw [← unhide HW4] at s0 s1 s2 s3 s4 s5 g0 g1 z0 z1 z2 z3 z4 z5 f0 f1 f2 f3 f4 f5
      by_cases hrb : rbOk p (n : Int) i = true
      · rw [hrb]
        obtain ⟨m, hm, hm1, hm2⟩ := rb_next (unhide H).byte hrb
        have HRI := hide (by rw [← hRR]; simp [rbF, hrb] : R = i)
        obtain ⟨f', rfl⟩ : ∃ f', f = f' + 1 := ⟨f - 1, by have := (unhide HN).2.1; omega⟩
        have HE := hide (rdL_yes (k := f') hrb)
        rw [hm, Int.toNat_natCast] at HE
        obtain rfl : V = (m : Int) := by rw [← hVV, hm]
        obtain ⟨es, hes⟩ : ∃ es, rbE p (n : Int) i = es := ⟨_, rfl⟩
        rw [hes] at HE HNB HL3
        have HM := hide (⟨hm1, hm2⟩ : n + 18 < m ∧ m ≤ p.length)
        clear hrb hm hm1 hm2 hVV hRR hes
        have HO4 := hide (((unhide HO3).pass (unhide KA) (by simp)).pass ((Kept.refl [] W4).alloc (.cells #[.int .u64 (R : Int), .slice a3 n3 c3] 129)) (by simp))
        have HX4 := hide (((Kept.refl [] W4).alloc (.cells #[.int .u64 (R : Int), .slice a3 n3 c3] 129)).heap (unhide HS4) (by simp))
        have HY4 := hide (((Kept.refl [] W4).alloc (.cells #[.int .u64 (R : Int), .slice a3 n3 c3] 129)).heap (unhide HZ4) (by simp))
        have HG4 := hide (((Kept.refl [] W4).alloc (.cells #[.int .u64 (R : Int), .slice a3 n3 c3] 129)).heap (unhide HBW) (by simp))
        have HK4 := hide (((unhide HK3).trans (unhide KA) (by simp)).alloc (.cells #[.int .u64 (R : Int), .slice a3 n3 c3] 129))
        have HN4 := hide (((unhide HNB).kept (unhide KA) (by simp)).kept ((Kept.refl [] W4).alloc (.cells #[.int .u64 (R : Int), .slice a3 n3 c3] 129)) (by simp))
        have HH4 := hide (by rw [← unhide HW4]; exact heap_alloc2_new _ _ _ : (W4.alloc (.cells #[.int .u64 (R : Int), .slice a3 n3 c3] 129)).heap[w3.heap.size + 1]? = some (.cells #[.int .u64 (R : Int), .slice a3 n3 c3] 129 (0, 0)))
        rw [← unhide HW4] at HO4 HX4 HY4 HG4 HK4 HN4 HH4
        have HNB4 := hide (fun b hb => by have := unhide HBB b hb; have := unhide HSB; exact Nat.ne_of_lt (by omega) : ∀ b, bv.ownBlock = some b → b ≠ w3.heap.size)
        have HNS4 := hide (fun b hb => by have := ((unhide HO3).own.lt b hb).1; have := unhide HS2; omega : ∀ b, bv.ownBlock = some b → b ≠ w1.heap.size + 1)
        have HNZ4 := hide (fun b hb => by have := ((unhide HO3).own.lt b hb).1; have := unhide HS2; have := unhide HLT; omega : ∀ b, bv.ownBlock = some b → b ≠ w.heap.size)
        go_upto_region 10 with (at_builtin; refine wpList_pushB rfl (.tmp 39) (.tmp 41) rfl rfl _ W2.heap.size bv ts R (.slice a3 n3 c3) (w3.heap.size + 1) (unhide HO4).own (unhide HH4) rfl (by have := unhide HN; have := unhide HLP; omega) (unhide HO4).sz rfl rfl ?_; intro g cap w5 HO5 HG5 HA5; (have HX5 := hide (((Kept.refl (bv.ownBlock.toList) _).grown (unhide HG5) (by intro k hk; left; simp [hk])).heap (unhide HX4) (by intro hm; exact unhide HNS4 _ (by simpa using hm) rfl))); (obtain ⟨x0, x1, x2, x3, x4, x5⟩ := scells (unhide HX5)); (obtain ⟨q0, q1, q2, q3, q4, q5⟩ := sfroz (unhide HX5)))
        have HK5 := hide ((Kept.refl (bv.ownBlock.toList) _).grown (unhide HG5) (by intro k hk; left; simp [hk]))
        have HB5 := hide ((unhide HK5).heap (unhide HG4) (by intro hm; exact unhide HNB4 _ (by simpa using hm) rfl))
        have HZ5 := hide ((unhide HK5).heap (unhide HY4) (by intro hm; exact unhide HNZ4 _ (by simpa using hm) rfl))
        have HP5 := hide ((unhide HO4).push (unhide HN4) (unhide HWB) (unhide HBB) (unhide HO5) (unhide HG5) (unhide HA5))
        have HKW5 := hide ((unhide HK4).grown (unhide HG5) (fun k hk => Or.inr (by have := ((unhide HO3).own.lt k hk).1; have := unhide HS2; have := unhide HLT; omega)))
        have HSS := hide (by have := lt_of_block (unhide HX5); have := (unhide HO3).sz; have := unhide HS2; have := unhide HWB; have := unhide HSB; omega : w1.heap.size + 1 ≠ w3.heap.size)
        clear x0 x1 x2 x3 x4 x5 q0 q1 q2 q3 q4 q5 HO5 HG5 HA5 HO4 HX4 HY4 HG4 HK4 HN4 HH4 HNB4 HNS4 HNZ4 HK5 s0 s1 s2 s3 s4 s5 g0 g1 z0 z1 z2 z3 z4 z5 f0 f1 f2 f3 f4 f5 HW4 HBW KA HS4 HZ4
        have HX6 := hide (put45_heap (unhide HX5) (.slice (some ⟨g, 0, none⟩) (ts.length + 1) cap) (.int .i64 (m : Int)))
        have HK6 := hide (((Kept.refl [w1.heap.size + 1] w5).setCell (p := ⟨w1.heap.size + 1, 4, none⟩) (Or.inl (by simp)) (.slice (some ⟨g, 0, none⟩) (ts.length + 1) cap)).setCell (p := ⟨w1.heap.size + 1, 5, none⟩) (Or.inl (by simp)) (.int .i64 (m : Int)))
        have HKW6 := hide (((unhide HKW5).setCell (p := ⟨w1.heap.size + 1, 4, none⟩) (Or.inr (by have := unhide HLT; simp only; omega)) (.slice (some ⟨g, 0, none⟩) (ts.length + 1) cap)).setCell (p := ⟨w1.heap.size + 1, 5, none⟩) (Or.inr (by have := unhide HLT; simp only; omega)) (.int .i64 (m : Int)))
        generalize (w5.setCell ⟨w1.heap.size + 1, 4, none⟩ (.slice (some ⟨g, 0, none⟩) (ts.length + 1) cap)).setCell ⟨w1.heap.size + 1, 5, none⟩ (.int .i64 (m : Int)) = W6 at HX6 HK6 HKW6 ⊢
        have HB6 := hide ((unhide HK6).heap (unhide HB5) (by intro hm; exact unhide HSS (by simpa using (List.mem_singleton.1 hm).symm)))
        have HZ6 := hide ((unhide HK6).heap (unhide HZ5) (by intro hm; have := List.mem_singleton.1 hm; have := unhide HLT; omega))
        have HP6 := hide ((unhide HP5).pass (unhide HK6) (by have := unhide HS2; simp; omega))
        obtain ⟨g0, g1⟩ := bcells (unhide HB6)
        go_wp2_with fail
        go_roundw
        case rel =>
          refine ⟨m, f', (i + es.length) % 18446744073709551616, .slice (some ⟨g, 0, none⟩) (ts.length + 1) cap, ts ++ [(R, .slice a3 n3 c3, es)], ?_, hide ⟨by have := (unhide HM).2; omega, by have := (unhide HN).2.1; have := (unhide HM).1; omega, by have := (unhide HN).2.2; have := (unhide HM).1; rw [List.length_append]; simp; omega⟩, hide ?_, HX6, HP6, HKW6, HZ6⟩
          · have h9 := unhide HL3
            rw [h9, IntKind.wrap_u64]
            simp
          · rw [unhide HR, unhide HE, unhide HRI]
            simp
        case measure =>
          rw [(scells (unhide HX6)).2.2.2.2.2, unhide HC5]
          have := unhide HM
          simp [intOf]
          omega
      · rw [Bool.not_eq_true] at hrb
        rw [hrb]
        have HE := hide (rdL_no (k := f) hrb)
        have HBS := hide (by
          have h9 := (unhide HO3).own.2
          rcases h9 with ⟨rfl, _⟩ | ⟨g, cap, cur, rfl, _⟩
          · exact ⟨_, _, _, rfl⟩
          · exact ⟨_, _, _, rfl⟩ : ∃ a n c, bv = .slice a n c)
        obtain ⟨ab, nb, cb, rfl⟩ := unhide HBS
        clear hrb
        go_wp2
        rw [unhide HW4]
        refine bodyPost_ret (v := .tuple #[.agg #[.int .u64 (X.a : Int), .int .u64 (X.b : Int), .int .u64 (X.c : Int), .int .i64 (X.d : Int), .slice ab nb cb, .int .i64 (n : Int)], .int .i64 0]) ?_ rfl ⟨.slice ab nb cb, by rw [(unhide HV).1, (unhide HV).2.2, unhide HR, unhide HE]; rfl, ?_, put6_kept ((unhide HK3).trans (unhide KA) (by simp)) w.heap.size (Or.inr (Nat.le_refl _)) _ _ _ _ _ _⟩
        · exact results_cell_tmp rfl _ _ w.heap.size _ #[.int .u64 (X.a : Int), .int .u64 (X.b : Int), .int .u64 (X.c : Int), .int .i64 (X.d : Int), .slice ab nb cb, .int .i64 (n : Int)] (0, 0) _ rfl (put6_heap (unhide HZ4) _ _ _ _ _ _) Tryz.underlying83 rfl Tryz.size_seg _ rfl
        · rw [(unhide HV).2.1, unhide HR, unhide HE, List.append_nil]
          exact ⟨ts, rfl, (((unhide HO3).pass (unhide KA) (by simp)).pass (put6_kept (L := [w.heap.size]) (Kept.refl _ W4) w.heap.size (Or.inl (by simp)) _ _ _ _ _ _) (by have := unhide HLT; have := unhide HS2; simp; omega)).base (by have := unhide HLT; have := unhide HS2; omega)⟩
  · rw [Bool.not_eq_true] at hok
    rw [hok]
    simp only [Bool.false_eq_true, if_false]
    have HV := hide (unhide HNO hok)
    go_wp2
    rw [unhide HW1]
    refine bodyPost_ret (v := .tuple #[.agg #[.int .u64 0, .int .u64 0, .int .u64 0, .int .i64 0, .slice none 0 0, .int .i64 0], .int .i64 3]) ?_ rfl ⟨.slice none 0 0, by rw [(unhide HV).1, (unhide HV).2.1, (unhide HV).2.2.2]; rfl, by rw [(unhide HV).2.2.1]; exact ⟨[], rfl, OwnB.empty (put6_kept (unhide HKW) w.heap.size (Or.inr (Nat.le_refl _)) _ _ _ _ _ _).size⟩, put6_kept (unhide HKW) w.heap.size (Or.inr (Nat.le_refl _)) _ _ _ _ _ _⟩
    exact results_cell_tmp rfl _ _ w.heap.size _ #[.int .u64 0, .int .u64 0, .int .u64 0, .int .i64 0, .slice none 0 0, .int .i64 0] (0, 0) _ rfl (put6_heap (unhide HZW) _ _ _ _ _ _) Tryz.underlying83 rfl Tryz.size_seg _ rfl
end Go.Proofs.YtejchncdimcdbaaGreatDoor
namespace Go.Proofs.YtejchncdimcdbaaGreatDoor
open Go.RowKit Go.BigFrame
set_option linter.unusedVariables false
set_option linter.unusedSimpArgs false

/-- One operation behind another: the first answer that isn't OK. -/
def thn (r : Nat × DSt) (f : DSt → Nat × DSt) : Nat × DSt := if r.1 = 0 then f r.2 else r
def nmB (u : Nat) : ByteArray := strB (nmL u)
def stBegin (σ : DSt) (n ep fs : Nat) (wd : Int) : Nat × DSt :=
  thn (thn (thn (stCreate σ (nmB n)) (fun τ => stAppend τ (nmB n) (ehB n ep fs wd))) (fun τ => stSync τ (nmB n))) stNames
/-- A log, without its memory. -/
structure LSt where
  num : Nat
  ep : Nat
  fst : Nat
  wd : Int
  byt : Nat
  bt : Nat
  lim : Int
  nx : Nat
  st : Nat
def lgRot (σ : DSt) (l : LSt) : Nat × DSt × LSt :=
  if (stSync σ (nmB l.num)).1 ≠ 0 then ((stSync σ (nmB l.num)).1, (stSync σ (nmB l.num)).2, l)
  else if l.num = 18446744073709551615 then (7, (stSync σ (nmB l.num)).2, l)
  else if (stBegin (stSync σ (nmB l.num)).2 (l.num + 1) l.ep l.nx l.wd).1 ≠ 0 then ((stBegin (stSync σ (nmB l.num)).2 (l.num + 1) l.ep l.nx l.wd).1, (stBegin (stSync σ (nmB l.num)).2 (l.num + 1) l.ep l.nx l.wd).2, l)
  else (0, (stBegin (stSync σ (nmB l.num)).2 (l.num + 1) l.ep l.nx l.wd).2, { l with num := l.num + 1, fst := l.nx, byt := 48, bt := 0 })
def lgLay (σ : DSt) (l : LSt) (p : List Nat) : Nat × DSt × LSt :=
  ((stAppend σ (nmB l.num) p).1, (stAppend σ (nmB l.num) p).2, if (stAppend σ (nmB l.num) p).1 = 0 then { l with byt := l.byt + p.length, bt := l.bt + 1 } else l)
def lgFull (l : LSt) : Bool := decide (0 < l.bt) && decide (l.lim ≤ (l.byt : Int))
def lgWrite (σ : DSt) (l : LSt) (p : List Nat) : Nat × DSt × LSt :=
  if lgFull l then (if (lgRot σ l).1 ≠ 0 then lgRot σ l else lgLay (lgRot σ l).2.1 (lgRot σ l).2.2 p) else lgLay σ l p
def lgFail (l : LSt) : Nat := if l.st = 0 ∨ l.st = 12 then l.st else 8
def lgAppend (σ : DSt) (l : LSt) (es : List En) : Nat × DSt × LSt :=
  if chkB l.nx es ≠ 0 then (chkB l.nx es, σ, l)
  else if lgFail l ≠ 0 then (lgFail l, σ, l)
  else ((lgWrite σ l (sbB l.nx es)).1, (lgWrite σ l (sbB l.nx es)).2.1, { (lgWrite σ l (sbB l.nx es)).2.2 with st := (lgWrite σ l (sbB l.nx es)).1, nx := if (lgWrite σ l (sbB l.nx es)).1 = 0 then (l.nx + es.length) % 18446744073709551616 else l.nx })
def lgSync (σ : DSt) (l : LSt) : Nat × DSt × LSt :=
  if lgFail l ≠ 0 then (lgFail l, σ, l)
  else ((stSync σ (nmB l.num)).1, (stSync σ (nmB l.num)).2, { l with st := (stSync σ (nmB l.num)).1 })
/-- What stands on a disk. -/
structure FSt where
  last : Nat
  ep : Nat
  sz : Nat
  sg : List (List UInt8)
  bs : List (Nat × List En)
def natL (s : List UInt8) : List Nat := s.map UInt8.toNat
def strU (s : List UInt8) : ByteArray := ⟨s.toArray⟩
theorem strB_nat (s : List UInt8) : strB (natL s) = strU s := by
  unfold strB natL strU
  rw [List.map_map]
  congr 1
  congr 1
  conv => rhs; rw [← List.map_id s]
  apply List.map_congr_left
  intro x _
  simp
theorem natL_byte (s : List UInt8) : ∀ x ∈ natL s, x < 256 := by
  intro x hx
  simp only [natL, List.mem_map] at hx
  obtain ⟨y, _, rfl⟩ := hx
  exact y.toNat_lt
def cntB (bs : List (Nat × List En)) : Nat := (bs.map fun b => b.2.length).sum
def goOnF (f : FSt) (p : List Nat) : Bool := decide ((hdC p).c = f.sz) && decide (f.ep ≤ (hdC p).b) && decide ((hdC p).b < 18446744073709551615)
def stepF (σ : DSt) (wd : Int) (f : FSt) (s : List UInt8) : Option FSt :=
  if nbE (natL s) ≠ 0 then some f
  else if nbU (natL s) = 18446744073709551615 then none
  else if sgE (stRead σ (strU s)).1 ≠ 0 then some { f with last := nbU (natL s) }
  else if (hdC (stRead σ (strU s)).1).a = nbU (natL s) ∧ ((hdC (stRead σ (strU s)).1).d : Int) = wd ∧ goOnF f (stRead σ (strU s)).1 = true then
    some ⟨nbU (natL s), (hdC (stRead σ (strU s)).1).b, (f.sz + cntB (sgB (stRead σ (strU s)).1)) % 18446744073709551616, f.sg ++ [s], f.bs ++ sgB (stRead σ (strU s)).1⟩
  else none
def findF (σ : DSt) (wd : Int) : FSt → List (List UInt8) → Option FSt
  | f, [] => some f
  | f, s :: r => match stepF σ wd f s with
    | none => none
    | some g => findF σ wd g r
def stSyncs : DSt → List (List UInt8) → Nat × DSt
  | σ, [] => (0, σ)
  | σ, s :: r => if (stSync σ (strU s)).1 ≠ 0 then stSync σ (strU s) else stSyncs (stSync σ (strU s)).2 r
def argOk (wd lim : Int) : Bool := decide (1 ≤ wd ∧ wd ≤ 32 ∧ 1 ≤ lim ∧ lim ≤ 1048576)
def fst0 : FSt := ⟨0, 0, 0, [], []⟩
/-- What Open answers. -/
structure OpA where
  e : Nat
  σ : DSt
  l : Option LSt
  bs : List (Nat × List En)
def opOf (σ : DSt) (wd lim : Int) (f : FSt) : OpA :=
  if (stSyncs σ f.sg).1 ≠ 0 then ⟨(stSyncs σ f.sg).1, (stSyncs σ f.sg).2, none, []⟩
  else if (stBegin (stSyncs σ f.sg).2 (f.last + 1) (f.ep + 1) f.sz wd).1 ≠ 0 then ⟨(stBegin (stSyncs σ f.sg).2 (f.last + 1) (f.ep + 1) f.sz wd).1, (stBegin (stSyncs σ f.sg).2 (f.last + 1) (f.ep + 1) f.sz wd).2, none, []⟩
  else ⟨0, (stBegin (stSyncs σ f.sg).2 (f.last + 1) (f.ep + 1) f.sz wd).2, some ⟨f.last + 1, f.ep + 1, f.sz, wd, 48, 0, lim, f.sz, 0⟩, f.bs⟩
def opD (σ : DSt) (wd lim : Int) : OpA :=
  if argOk wd lim = false then ⟨1, σ, none, []⟩
  else if σ.off then ⟨12, σ, none, []⟩
  else match findF σ wd fst0 (nmsOf σ) with
    | none => ⟨11, σ, none, []⟩
    | some f => opOf σ wd lim f
/-- The package's variables, whatever turns from g on. -/
def VarsG (g : Nat) (w : World) : Prop := ∀ L w', Kept L w w' → (∀ x ∈ L, g ≤ x) → VarsS w'
theorem VarsG.now {g : Nat} {w : World} (h : VarsG g w) : VarsS w := h [] w (Kept.refl _ _) (by simp)
theorem VarsG.on {g : Nat} {L : List Nat} {w w' : World} (h : VarsG g w) (k : Kept L w w') (hL : ∀ x ∈ L, g ≤ x) : VarsG g w' := by
  intro M w2 k2 hM
  exact h (L ++ M) w2 ((k.mono (M := L ++ M) (fun x hx => by simp [hx])).trans (k2.mono (M := L ++ M) (fun x hx => by simp [hx])) (fun x hx => Or.inl hx)) (fun x hx => by
    rcases List.mem_append.1 hx with hx | hx
    · exact hL x hx
    · exact hM x hx)
theorem VarsG.old {g : Nat} {w w' : World} (h : VarsG g w) (k : Kept [] w w') : VarsG g w' := h.on k (by simp)
theorem VarsG.start {w : World} (h : VarsS w) : VarsG w.heap.size w := by
  intro L w' k hL
  exact h.old ⟨k.os, k.tape, k.output, k.size, fun j hj _ => k.block j hj (fun hm => by have := hL j hm; omega)⟩
theorem Ev.ge {w w' : World} {B B' : List Nat} {g : Nat} (h : Ev w w' B B') (hB : ∀ x ∈ B, g ≤ x) (hg : g ≤ w.heap.size) : ∀ x ∈ B', g ≤ x := by
  intro x hx
  rcases h.2 x hx with h1 | h1
  · exact hB x h1
  · omega
end Go.Proofs.YtejchncdimcdbaaGreatDoor
