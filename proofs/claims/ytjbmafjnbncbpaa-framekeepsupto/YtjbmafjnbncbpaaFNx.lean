import Derived.Test.YtjbmafjnbncbpaaFNext
import Derived.Test.YtjbmafjnbncbpaaQRow
import Derived.Deep.RegionHeld3
namespace Go.Proofs.Ytjbmafjnbncbpaa
open Go.RowKit Go.BigFrame
set_option linter.unusedVariables false
set_option linter.unusedSimpArgs false

theorem results_cell_tmp2 {P : Program} {fn : Func} {p q r : Tmp} {ty : TypeId} (h : fn.results = #[.cell p ty, .tmp q, .tmp r]) (tmps : Array Value) (w : World) (g : Nat) (t : TypeId) (cs : Array Value) (fr : Nat × Nat) (d : TypeDesc)
    (hp : tmps.getD p undef = .pointer (some ⟨g, 0, none⟩)) (hg : w.heap[g]? = some (.cells cs t fr))
    (hu : P.underlying ty = some d) (hd : (match d with | .struct _ | .array _ _ => true | _ => false) = true) (hi : (P.info? ty).map (·.size) = some cs.size) (v u : Value) (hq : tmps.getD q undef = v) (hr : tmps.getD r undef = u) :
    (results fn tmps).run P w = .ok (.tuple #[.agg cs, v, u]) w := by
  have hp' : tmps[p]?.getD undef = .pointer (some ⟨g, 0, none⟩) := by simpa using hp
  have hq' : tmps[q]?.getD undef = v := by simpa using hq
  have hr' : tmps[r]?.getD undef = u := by simpa using hr
  simp [results, h, hp', hq', hr', asAddr, run_loadVar_row w g t ty cs fr d hg hu hd hi]

/-- What stands in p at the place z: place, payload, the place behind it, the kind. -/
structure NxR where
  pl : Nat
  pay : List Nat
  next : Int
  kind : Nat
def nextF (p : List Nat) (z : Int) : NxR :=
  if z = p.length then ⟨0, [], z, 0⟩ else if z < 0 ∨ (p.length : Int) < z then ⟨0, [], z, 2⟩ else
  match firstF (p.drop z.toNat) with
  | none => ⟨0, [], z, 2⟩
  | some x => ⟨x.1, x.2, z + 18 + x.2.length, 1⟩
theorem Rd.dropN {w : World} {b off cap : Nat} {p : List Nat} (h : Rd w (.slice (some ⟨b, off, none⟩) p.length cap) p) (n : Nat) (hn : n ≤ p.length) : Rd w (.slice (some ⟨b, off + n, none⟩) (p.length - n) (cap - n)) (p.drop n) := by
  obtain ⟨ao', len', cap', he, _, h2, ⟨h3, h3'⟩, h4, h5, h6⟩ := h
  cases he
  refine ⟨_, _, _, rfl, by rw [List.length_drop], by omega, ⟨by omega, by omega⟩, fun h => by simp at h, fun x hx => h5 x (List.mem_of_mem_drop hx), fun hp => ?_⟩
  obtain ⟨b', off', e, hc⟩ := h6 (by omega)
  cases e
  refine ⟨b, off + n, rfl, fun i hi => ?_⟩
  have := hc (n + i) (by omega)
  rw [Nat.add_assoc, this, List.getD_eq_getElem?_getD, List.getD_eq_getElem?_getD, List.getElem?_drop]

set_option maxRecDepth 100000 in
set_option maxHeartbeats 2000000 in
theorem next_any (v : Value) (p : List Nat) (z : Int) (w : World) (h : Rd w v p) (hz : -9223372036854775808 ≤ z ∧ z ≤ 9223372036854775807) :
    Calls Try.prog 14 #[v, .int .i64 z] w fun e w' => ∃ v', e = .returned (.tuple #[.agg #[.int .u64 (nextF p z).pl, v'], .int .i64 (nextF p z).next, .int .i64 (nextF p z).kind]) ∧ NewP w w' v' (nextF p z).pay ∧ Kept [] w w' := by
  have H := hide h
  obtain ⟨a1, n1, c1, rfl, hn1, hc1, ⟨hc2, hc3⟩, _, _, hcell⟩ := id h
  subst hn1
  clear h
  have HZ0 := hide (heap_alloc_new w (.cells #[.int .u64 0, .slice none 0 0] 40))
  have HK0 := hide ((Kept.refl [] w).alloc (.cells #[.int .u64 0, .slice none 0 0] 40))
  have HQ0 := hide (put2_heap (unhide HZ0) (.int .u64 0) (.slice none 0 0))
  have HKQ := hide (put2_kept (unhide HK0) w.heap.size (Nat.le_refl _) (.int .u64 0) (.slice none 0 0))
  by_cases h1 : z = p.length
  · have hN : nextF p z = ⟨0, [], z, 0⟩ := by unfold nextF; rw [if_pos h1]
    rw [hN]
    clear hN hcell
    subst h1
    go_enter Try.func14, Try.ntmps14
    go_wp2
    refine bodyPost_ret (v := .tuple #[.agg #[.int .u64 0, .slice none 0 0], .int .i64 p.length, .int .i64 0]) ?_ rfl ⟨_, rfl, NewP.nil _ _, unhide HK0⟩
    exact results_cell_tmp2 rfl _ _ w.heap.size _ #[.int .u64 0, .slice none 0 0] (0, 0) _ rfl (unhide HZ0) Try.underlying40 rfl Try.size_frame _ _ rfl rfl
  have h1' : (z == (p.length : Int)) = false := by rw [beq_eq_false_iff_ne]; exact h1
  by_cases h2 : z < 0
  · have hN : nextF p z = ⟨0, [], z, 2⟩ := by unfold nextF; rw [if_neg h1, if_pos (Or.inl h2)]
    rw [hN]
    clear hN hcell
    go_enter Try.func14, Try.ntmps14
    go_wp2
    refine bodyPost_ret (v := .tuple #[.agg #[.int .u64 0, .slice none 0 0], .int .i64 z, .int .i64 2]) ?_ rfl ⟨_, rfl, NewP.nil _ _, unhide HK0⟩
    exact results_cell_tmp2 rfl _ _ w.heap.size _ #[.int .u64 0, .slice none 0 0] (0, 0) _ rfl (unhide HZ0) Try.underlying40 rfl Try.size_frame _ _ rfl rfl
  by_cases h3 : (p.length : Int) < z
  · have hN : nextF p z = ⟨0, [], z, 2⟩ := by unfold nextF; rw [if_neg h1, if_pos (Or.inr h3)]
    rw [hN]
    clear hN hcell
    go_enter Try.func14, Try.ntmps14
    go_wp2
    refine bodyPost_ret (v := .tuple #[.agg #[.int .u64 0, .slice none 0 0], .int .i64 z, .int .i64 2]) ?_ rfl ⟨_, rfl, NewP.nil _ _, unhide HK0⟩
    exact results_cell_tmp2 rfl _ _ w.heap.size _ #[.int .u64 0, .slice none 0 0] (0, 0) _ rfl (unhide HZ0) Try.underlying40 rfl Try.size_frame _ _ rfl rfl
  obtain ⟨n, rfl⟩ : ∃ n : Nat, z = n := ⟨z.toNat, by omega⟩
  have hn : n < p.length := by omega
  obtain ⟨bb, off, rfl, hcl⟩ := hcell (by omega)
  clear hcell hcl
  have HD := hide ((unhide H).dropN n (by omega))
  have HNF := hide (by unfold nextF; rw [if_neg h1, if_neg (by omega), Int.toNat_natCast] : nextF p n = match firstF (p.drop n) with
    | none => ⟨0, [], n, 2⟩
    | some x => ⟨x.1, x.2, (n : Int) + 18 + x.2.length, 1⟩)
  cases hf : firstF (p.drop n) with
  | none =>
    rw [hf] at HNF
    rw [unhide HNF]
    have HF := hide hf
    clear hf
    have h3' : ¬ (p.length : Int) < n := by omega
    go_enter Try.func14, Try.ntmps14
    go_wp2_with fail
    refine Calls.mono (first_any _ (p.drop n) _ ((unhide HD).old (unhide HK0) (by simp))) ?_
    rintro e w1 ⟨v1, rfl, n1, k1⟩
    rw [unhide HF]
    have HZ1 := hide (k1.heap (unhide HZ0) (by simp))
    have HK1 := hide ((unhide HK0).trans k1 (by simp))
    obtain ⟨a2, n2, c2, hv1, _⟩ := id n1.1
    subst hv1
    clear k1 n1
    have k2 := (Kept.refl [] w1).alloc (.cells #[.int .u64 (fstPl (p.drop n) : Int), .slice a2 n2 c2] 40)
    have HZ2 := hide (k2.heap (unhide HZ1) (by simp))
    have HK2 := hide ((unhide HK1).alloc (.cells #[.int .u64 (fstPl (p.drop n) : Int), .slice a2 n2 c2] 40))
    have d0 : (w1.alloc (.cells #[.int .u64 (fstPl (p.drop n) : Int), .slice a2 n2 c2] 40)).cell? ⟨w.heap.size, 0, none⟩ = some (.int .u64 0) := by rw [cell_of_row _ _ _ _ _ _ (unhide HZ2)]; rfl
    have d1 : (w1.alloc (.cells #[.int .u64 (fstPl (p.drop n) : Int), .slice a2 n2 c2] 40)).cell? ⟨w.heap.size, 1, none⟩ = some (.slice none 0 0) := by rw [cell_of_row _ _ _ _ _ _ (unhide HZ2)]; rfl
    have f0 : (w1.alloc (.cells #[.int .u64 (fstPl (p.drop n) : Int), .slice a2 n2 c2] 40)).frozen? ⟨w.heap.size, 0, none⟩ = false := frozen_of_row _ _ _ _ _ (unhide HZ2)
    have f1 : (w1.alloc (.cells #[.int .u64 (fstPl (p.drop n) : Int), .slice a2 n2 c2] 40)).frozen? ⟨w.heap.size, 1, none⟩ = false := frozen_of_row _ _ _ _ _ (unhide HZ2)
    clear k2
    go_wp2
    refine bodyPost_ret (v := .tuple #[.agg #[.int .u64 0, .slice none 0 0], .int .i64 n, .int .i64 2]) ?_ rfl ⟨_, rfl, NewP.nil _ _, put2_kept (unhide HK2) w.heap.size (Nat.le_refl _) (.int .u64 0) (.slice none 0 0)⟩
    exact results_cell_tmp2 rfl _ _ w.heap.size _ #[.int .u64 0, .slice none 0 0] (0, 0) _ rfl (put2_heap (unhide HZ2) (.int .u64 0) (.slice none 0 0)) Try.underlying40 rfl Try.size_frame _ _ rfl rfl
  | some x =>
    obtain ⟨pl, pay⟩ := x
    rw [hf] at HNF
    rw [unhide HNF]
    have hfm := firstF_form hf (fun x hx => (unhide H).byte x (List.mem_of_mem_drop hx))
    have hlen : n + 18 + pay.length ≤ p.length := by
      have := congrArg List.length hfm.2.2.2.2
      rw [List.length_append, frB_len, List.length_drop] at this
      omega
    have HF := hide hf
    have e1 : fstPl (p.drop n) = pl := by simp [fstPl, hf]
    have e2 : fstPay (p.drop n) = pay := by simp [fstPay, hf]
    clear hf
    have h3' : ¬ (p.length : Int) < n := by omega
    go_enter Try.func14, Try.ntmps14
    go_wp2_with fail
    refine Calls.mono (first_any _ (p.drop n) _ ((unhide HD).old (unhide HK0) (by simp))) ?_
    rintro e w1 ⟨v1, rfl, n1, k1⟩
    rw [e2] at n1
    rw [unhide HF, e1]
    have HZ1 := hide (k1.heap (unhide HZ0) (by simp))
    have HK1 := hide ((unhide HK0).trans k1 (by simp))
    have HN1 := hide n1
    obtain ⟨a2, n2, c2, hv1, hn2, _⟩ := id n1.1
    subst hv1
    subst hn2
    clear k1 n1 e1 e2 hfm
    have k2 := (Kept.refl [] w1).alloc (.cells #[.int .u64 (pl : Int), .slice a2 pay.length c2] 40)
    have HZ2 := hide (k2.heap (unhide HZ1) (by simp))
    have HK2 := hide ((unhide HK1).alloc (.cells #[.int .u64 (pl : Int), .slice a2 pay.length c2] 40))
    have d0 : (w1.alloc (.cells #[.int .u64 (pl : Int), .slice a2 pay.length c2] 40)).cell? ⟨w.heap.size, 0, none⟩ = some (.int .u64 0) := by rw [cell_of_row _ _ _ _ _ _ (unhide HZ2)]; rfl
    have d1 : (w1.alloc (.cells #[.int .u64 (pl : Int), .slice a2 pay.length c2] 40)).cell? ⟨w.heap.size, 1, none⟩ = some (.slice none 0 0) := by rw [cell_of_row _ _ _ _ _ _ (unhide HZ2)]; rfl
    have f0 : (w1.alloc (.cells #[.int .u64 (pl : Int), .slice a2 pay.length c2] 40)).frozen? ⟨w.heap.size, 0, none⟩ = false := frozen_of_row _ _ _ _ _ (unhide HZ2)
    have f1 : (w1.alloc (.cells #[.int .u64 (pl : Int), .slice a2 pay.length c2] 40)).frozen? ⟨w.heap.size, 1, none⟩ = false := frozen_of_row _ _ _ _ _ (unhide HZ2)
    clear k2
    go_wp2
    obtain ⟨W, hW⟩ : ∃ W, w1.alloc (.cells #[.int .u64 (pl : Int), .slice a2 pay.length c2] 40) = W := ⟨_, rfl⟩
    have HC := hide (heap_alloc_new w1 (.cells #[.int .u64 (pl : Int), .slice a2 pay.length c2] 40))
    have hlt1 : w.heap.size < w1.heap.size := lt_of_block (unhide HZ1)
    have HNW := hide ((unhide HN1).1.old ((Kept.refl [] w1).alloc (.cells #[.int .u64 (pl : Int), .slice a2 pay.length c2] 40)) (by simp))
    rw [hW] at HC d0 d1 f0 f1 HZ2 HK2 HNW ⊢
    clear hW
    have e0 : W.cell? ⟨w1.heap.size, 0, none⟩ = some (.int .u64 pl) := by rw [cell_of_row _ _ _ _ _ _ (unhide HC)]; rfl
    have e1 : W.cell? ⟨w1.heap.size, 1, none⟩ = some (.slice a2 pay.length c2) := by rw [cell_of_row _ _ _ _ _ _ (unhide HC)]; rfl
    have hne : w.heap.size ≠ w1.heap.size := by omega
    have HB1 := hide (fun x hx => by have h9 := (unhide HN1).2 x hx; have h8 : (w.alloc (.cells #[.int .u64 0, .slice none 0 0] 40)).heap.size = w.heap.size + 1 := by simp
                                     omega : ∀ x ∈ blk (.slice a2 pay.length c2), w.heap.size + 1 ≤ x)
    have HRQ := hide ((unhide HNW).kept (put2_kept' W w.heap.size (.int .u64 pl) (.slice a2 pay.length c2)) (by
      intro x hx hm
      have h9 := unhide HB1 x hx
      have h8 : x = w.heap.size := by simpa using hm
      omega))
    go_region_held3 (fun w' => w'.cell? ⟨w1.heap.size, 0, none⟩ = some (.int .u64 pl) ∧ w'.cell? ⟨w1.heap.size, 1, none⟩ = some (.slice a2 pay.length c2)) (go_keep) (fail)
    have hww : IntKind.i64.wrap (IntKind.i64.wrap ((n : Int) + 18) + pay.length) = (n : Int) + 18 + pay.length := by rw [IntKind.wrap_i64, IntKind.wrap_i64]; omega
    all_goals go_wp2
    all_goals
      refine bodyPost_ret (v := .tuple #[.agg #[.int .u64 pl, .slice a2 pay.length c2], .int .i64 ((n : Int) + 18 + pay.length), .int .i64 1]) ?_ rfl ⟨.slice a2 pay.length c2, rfl, ⟨unhide HRQ, fun x hx => by have h9 := unhide HB1 x hx; omega⟩, (put2_kept (unhide HK2) w.heap.size (Nat.le_refl _) (.int .u64 pl) (.slice a2 pay.length c2)).drew⟩
      refine results_cell_tmp2 rfl _ _ w.heap.size 40 #[.int .u64 pl, .slice a2 pay.length c2] (0, 0) _ rfl (by exact put2_heap (unhide HZ2) (.int .u64 pl) (.slice a2 pay.length c2)) Try.underlying40 rfl Try.size_frame _ _ ?_ rfl
      simp [hww]
end Go.Proofs.Ytjbmafjnbncbpaa
