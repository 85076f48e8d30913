import Derived.Test.YtckkalmhekfnhaaGreatDoorTopA
import Derived.Test.YtckkalmhekfnhaaGreatDoorTopD
import Derived.Test.YtckkalmhekfnhaaGreatDoorBase
import Derived.Test.YtckkalmhekfnhaaGreatDoorCards
import Derived.Test.YtckkalmhekfnhaaGreatDoorTie
import Derived.ProofKit
import Derived.OpenShut
import Derived.Deep.Slices
import Derived.SizedLaws
import Derived.Test.YtckkalmhekfnhaaGreatDoorEBat
namespace Go.Proofs.YtckkalmhekfnhaaGreatDoor
open Go.RowKit Go.BigFrame
set_option linter.unusedVariables false
set_option linter.unusedSimpArgs false

set_option maxRecDepth 100000 in
set_option maxHeartbeats 2000000 in
theorem twinEntries_any (v : Value) (es : List En) (w : World) (h : RdN w v es) (hl : es.length ≤ 1048576) :
    Calls Tryz.prog 39 #[v] w fun r w' => ∃ v', r = .returned v' ∧ NewN w.heap.size w' v' es ∧ Kept [] w w' := by
  obtain ⟨ao, len, cap, kv, vv, rfl, h1, h2, h3, h4, h5⟩ := h
  have H4 := hide h4
  have H5 := hide h5
  clear h4 h5
  subst h1
  go_enter Tryz.func39, Tryz.ntmps39
  go_wp2_with fail
  go_loopw [8, 3] (fun t12 t3 wr => ∃ (i : Nat) (ts : List (En × Value × Value)), i ≤ es.length ∧ t12 = .int .i64 i ∧ Hid (ts.map (·.1) = es.take i) ∧ Hid (OwnN [] w wr t3 ts)) (fun t _ _ => es.length - (intOf t).toNat)
  case atStart => exact ⟨0, [], Nat.zero_le _, rfl, hide (by simp), hide (OwnN.start (Kept.refl [] w))⟩
  case round =>
    obtain ⟨i, ts, hi, rfl, HTS, HO⟩ := hrel
    have HTL := hide (by have h9 := congrArg List.length (unhide HTS); simp only [List.length_map, List.length_take] at h9; omega : ts.length ≤ 1048576)
    by_cases hlt : i < es.length
    · have hlt' : (i : Int) < es.length := by omega
      obtain ⟨b, off, rfl, hcc⟩ := unhide H5 (by omega)
      have hr := hcc i hlt
      have q0 := (unhide HO).kept.cell (hr 0 _ rfl) (by simp)
      have q1 := (unhide HO).kept.cell (hr 1 _ rfl) (by simp)
      have q2 := (unhide HO).kept.cell (hr 2 _ rfl) (by simp)
      rw [Nat.add_zero] at q0
      have HE := hide ((unhide H4 i hlt).old (unhide HO).kept)
      have HSN := hide (by rw [List.take_succ_eq_append_getElem hlt] : es.take (i + 1) = es.take i ++ [es[i]])
      clear hcc hr
      generalize kv i = kvi at q1 HE
      generalize vv i = vvi at q2 HE
      generalize es[i] = e at q0 HE HSN
      obtain ⟨a8, m8, c8, rfl, _⟩ := id (unhide HE).key
      obtain ⟨a9, m9, c9, rfl, _⟩ := id (unhide HE).val
      have HSZ := hide (unhide HO).kept.size
      go_wp2_with fail
      have k1 := (Kept.refl [] wr).alloc (.cells #[.int .u8 (e.k : Int), .slice a8 m8 c8, .slice a9 m9 c9] 71)
      refine Calls.mono (twinEntry_any e _ _ _ ((unhide HE).old k1)) ?_
      rintro r w2 ⟨kv2, vv2, rfl, ok2, k2, n2⟩
      obtain ⟨a3, m3, c3, hu3, _⟩ := id ok2.key
      subst hu3
      obtain ⟨a4, m4, c4, hu4, _⟩ := id ok2.val
      subst hu4
      have HN2 := hide (fun y hy => by have h9 := n2 y hy; rw [show (wr.alloc (.cells #[.int .u8 (e.k : Int), .slice a8 m8 c8, .slice a9 m9 c9] 71)).heap.size = wr.heap.size + 1 from Array.size_push _] at h9; exact h9 : ∀ y, y ∈ blk (.slice a3 m3 c3) ∨ y ∈ blk (.slice a4 m4 c4) → wr.heap.size + 1 ≤ y)
      have HO2 := hide (((unhide HO).old (M := []) (k1.trans k2 (by simp)) (by simp)).old (M := []) ((Kept.refl [] w2).alloc (.cells #[.int .u8 (e.k : Int), .slice a3 m3 c3, .slice a4 m4 c4] 71)) (by simp))
      have HK2 := hide (ok2.old ((Kept.refl [] w2).alloc (.cells #[.int .u8 (e.k : Int), .slice a3 m3 c3, .slice a4 m4 c4] 71)))
      have HB2 := hide (unhide HO2).kept.size
      have HOL := hide (fun g hg => ((unhide HO).own.lt g hg).2 : ∀ g, u3.ownBlock = some g → g < wr.heap.size)
      clear k1 k2 n2 ok2
      simp only [enC]
      go_wp2_with (at_builtin; refine wpList_pushN rfl _ _ rfl rfl _ w.heap.size u3 ts e (.slice a3 m3 c3) (.slice a4 m4 c4) w2.heap.size (unhide HO2).own (heap_alloc_new _ _) rfl rfl (by have := unhide HTL; omega) (unhide HB2) rfl rfl ?_; intro g cap2 w5 HO5 HG5 HA5)
      refine ⟨⟨i + 1, ts ++ [(e, .slice a3 m3 c3, .slice a4 m4 c4)], by omega, by go_num, hide ?_, hide ?_⟩, ?_⟩
      · rw [List.map_append, unhide HTS, unhide HSN]; rfl
      · refine (unhide HO2).push (unhide HK2) (fun b' hb' => ?_) (unhide HO5) (unhide HG5) (unhide HA5)
        have h9 : wr.heap.size + 1 ≤ b' := by
          rcases hb' with hb' | hb'
          · exact unhide HN2 b' (Or.inl (mem_nblk hb').1)
          · exact unhide HN2 b' (Or.inr (mem_nblk hb').1)
        have h8 := unhide HSZ
        exact ⟨fun e9 => by have h7 := unhide HOL b' e9; omega, by omega⟩
      · simp [intOf]; omega
    · have hlt' : ¬ (i : Int) < es.length := by omega
      have hie : i = es.length := by omega
      subst hie
      rw [List.take_length] at HTS
      go_wp2
      go_ret
      exact ⟨_, rfl, ⟨[], w, ts, (unhide HTS).symm, unhide HO, Nat.le_refl _⟩, (unhide HO).kept⟩

set_option maxRecDepth 100000 in
set_option maxHeartbeats 1000000 in
theorem twinBatch_any (f : Nat) (v : Value) (es : List En) (w : World) (h : RdN w v es) (hl : es.length ≤ 1048576) :
    Calls Tryz.prog 18 #[.agg #[.int .u64 f, v]] w fun r w' => ∃ v', r = .returned (.agg #[.int .u64 f, v']) ∧ NewN w.heap.size w' v' es ∧ Kept [] w w' := by
  have H := hide h
  obtain ⟨a1, m1, c1, _, _, rfl, _⟩ := h
  have HG := hide (((Kept.refl [] (w.alloc (.cells #[.int .u64 (f : Int), .slice a1 m1 c1] 35))).alloc (.cells #[.int .u64 0, .slice none 0 0] 35)).heap (heap_alloc_new w (.cells #[.int .u64 (f : Int), .slice a1 m1 c1] 35)) (by simp))
  have HZ := hide (alloc_at w (.cells #[.int .u64 (f : Int), .slice a1 m1 c1] 35) (.cells #[.int .u64 0, .slice none 0 0] 35))
  have HK0 := hide (((Kept.refl [] w).alloc (.cells #[.int .u64 (f : Int), .slice a1 m1 c1] 35)).alloc (.cells #[.int .u64 0, .slice none 0 0] 35))
  have HSZ := hide (show ((w.alloc (.cells #[.int .u64 (f : Int), .slice a1 m1 c1] 35)).alloc (.cells #[.int .u64 0, .slice none 0 0] 35)).heap.size = w.heap.size + 2 by simp)
  go_enter Tryz.func18, Tryz.ntmps18
  go_wp2_with fail
  obtain ⟨W, hW⟩ : ∃ W, (w.alloc (.cells #[.int .u64 (f : Int), .slice a1 m1 c1] 35)).alloc (.cells #[.int .u64 0, .slice none 0 0] 35) = W := ⟨_, rfl⟩
  rw [hW] at HG HZ HK0 HSZ ⊢
  clear hW
  have x0 : W.cell? ⟨w.heap.size, 0, none⟩ = some (.int .u64 (f : Int)) := by rw [cell_of_row _ _ _ _ _ _ (unhide HG)]; rfl
  have x1 : W.cell? ⟨w.heap.size, 1, none⟩ = some (.slice a1 m1 c1) := by rw [cell_of_row _ _ _ _ _ _ (unhide HG)]; rfl
  have HX0 := hide x0
  have HX1 := hide x1
  have HHW := hide (((unhide H).old (unhide HK0)).old (Kept.refl [] W).drew)
  have hne : w.heap.size ≠ w.heap.size + 1 := by omega
  go_region_held3 (fun w' => w'.cell? ⟨w.heap.size, 0, none⟩ = some (.int .u64 (f : Int)) ∧ w'.cell? ⟨w.heap.size, 1, none⟩ = some (.slice a1 m1 c1)) (go_keep) (first
    | (go_at_call 39; refine (twinEntries_any _ es _ (by exact unhide HHW) hl).mono ?_; rintro e w3 ⟨v3, rfl, r3, k3⟩; obtain ⟨a3, m3, c3, _, _, hu3, _⟩ := id r3.rdN; subst hu3; have HR3 := hide (show NewN W.heap.size w3 (.slice a3 m3 c3) es from r3); have K3 := (Kept.refl [] W).drew.trans k3 (by simp); have HK3 := hide K3; have y0 := K3.cell (unhide HX0) (by simp); have y1 := K3.cell (unhide HX1) (by simp); have HZ3 := hide (K3.heap (unhide HZ) (by simp)); have t0 := cell_of_row _ _ 0 _ _ _ (unhide HZ3); have t1 := cell_of_row _ _ 1 _ _ _ (unhide HZ3); have f0 := frozen_of_row _ _ 0 _ _ (unhide HZ3); have f1 := frozen_of_row _ _ 1 _ _ (unhide HZ3); clear K3 k3 r3))
  all_goals go_wp2
  all_goals
    refine bodyPost_ret (v := .agg #[.int .u64 (f : Int), .slice a3 m3 c3]) ?_ rfl ⟨.slice a3 m3 c3, rfl, ?_, ?_⟩
    · exact results_cell_row rfl _ _ (w.heap.size + 1) _ #[.int .u64 (f : Int), .slice a3 m3 c3] (0, 0) _ rfl (by exact eput2_heap (unhide HZ3) _ _) Tryz.underlying35 rfl Tryz.size_batch
    · have h7 := unhide HSZ
      exact ((unhide HR3).kept (eput2_kept (Kept.refl [w.heap.size + 1] w3) (w.heap.size + 1) (Or.inl (by simp)) _ _) (by simp; omega)).weak (by omega)
    · exact eput2_kept ((unhide HK0).trans (unhide HK3) (by simp)) (w.heap.size + 1) (Or.inr (by omega)) _ _
end Go.Proofs.YtckkalmhekfnhaaGreatDoor
namespace Go.Proofs.YtckkalmhekfnhaaGreatDoor
open Go.RowKit Go.BigFrame
set_option linter.unusedVariables false
set_option linter.unusedSimpArgs false

def tri (n : Nat) : Prop := n = 0 ∨ n = 2 ∨ n = 3
theorem chkE_tri (e : En) : tri (chkE e) := by
  unfold chkE tri; split
  · simp
  · split <;> simp
theorem cntE_tri (f n : Nat) : tri (cntE f n) := by
  unfold cntE tri; split
  · simp
  · split <;> simp
theorem least_tri {a b : Nat} (ha : tri a) (hb : tri b) : tri (leastE a b) := by
  unfold leastE; split
  · exact hb
  · exact ha
theorem fold_tri (es : List En) : ∀ z, tri z → tri (es.foldl (fun a e => leastE a (chkE e)) z) := by
  induction es with
  | nil => intro z h; exact h
  | cons x xs ih => intro z h; exact ih _ (least_tri h (chkE_tri x))
theorem least_two {b : Nat} (hb : tri b) : leastE 2 b = 2 := by
  unfold leastE
  rcases hb with h | h | h <;> subst h <;> rfl
theorem least_two' {a : Nat} (ha : tri a) : leastE a 2 = 2 := by
  unfold leastE
  rcases ha with h | h | h <;> subst h <;> rfl
theorem fold_two (es : List En) : es.foldl (fun a e => leastE a (chkE e)) 2 = 2 := by
  induction es with
  | nil => rfl
  | cons x xs ih => rw [List.foldl_cons, least_two (chkE_tri x)]; exact ih
theorem chkB_long {f : Nat} {es : List En} (h : 64 < es.length) : chkB f es = 2 := by
  unfold chkB
  rw [show cntE f es.length = 2 by unfold cntE; rw [if_pos h]]
  exact fold_two es
theorem chkB_at {f : Nat} {es : List En} (i : Nat) (h : i < es.length) (h2 : chkE es[i] = 2) : chkB f es = 2 := by
  unfold chkB
  have e : es = es.take i ++ (es[i] :: es.drop (i + 1)) := by
    rw [← List.drop_eq_getElem_cons h, List.take_append_drop]
  conv => lhs; rw [e, List.foldl_append, List.foldl_cons]
  rw [← e, h2, least_two' (fold_tri _ _ (cntE_tri _ _))]
  exact fold_two _
theorem least_max {a b : Nat} (ha : tri a) (ha2 : a ≠ 2) (hb : tri b) (hb2 : b ≠ 2) : leastE a b = max a b := by
  unfold leastE
  rcases ha with h | h | h <;> rcases hb with h' | h' | h' <;> subst h <;> subst h' <;> first | rfl | (exact absurd rfl ha2) | (exact absurd rfl hb2)

set_option maxRecDepth 100000 in
set_option maxHeartbeats 1000000 in
theorem fits5_any (f n : Nat) (w : World) (hf : f < 18446744073709551616) (hn : n < 9223372036854775808) :
    Calls Tryz.prog 82 #[.int .u64 f, .int .i64 n] w fun r w' => r = .returned (.bool (decide (f + n < 18446744073709551616))) ∧ w' = w := by
  have h1 : IntKind.u64.wrap (n : Int) = n := by simp [IntKind.wrap, IntKind.signed, IntKind.bits]; omega
  by_cases h : f + n < 18446744073709551616
  · have h2 : IntKind.u64.wrap ((f : Int) + n) = f + n := by simp [IntKind.wrap, IntKind.signed, IntKind.bits]; omega
    have h2' : ((f : Int) + n) % 18446744073709551616 = f + n := by omega
    have h3 : (f : Int) ≤ f + n := by omega
    have HD := hide (decide_eq_true h)
    go_enter Tryz.func82, Tryz.ntmps82
    go_wp2
    go_ret
    exact ⟨by first | rfl | (rw [unhide HD]; rfl), rfl⟩
  · have h2 : IntKind.u64.wrap ((f : Int) + n) = f + n - 18446744073709551616 := by simp [IntKind.wrap, IntKind.signed, IntKind.bits]; omega
    have h2' : ((f : Int) + n) % 18446744073709551616 = f + n - 18446744073709551616 := by omega
    have h3 : ¬ (f : Int) ≤ f + n - 18446744073709551616 := by omega
    have HD := hide (decide_eq_false h)
    go_enter Tryz.func82, Tryz.ntmps82
    go_wp2
    go_ret
    exact ⟨by first | rfl | (rw [unhide HD]; rfl), rfl⟩

set_option maxRecDepth 100000 in
set_option maxHeartbeats 1000000 in
theorem docCheckBatch_any (f : Nat) (v : Value) (es : List En) (w : World) (hf : f < 18446744073709551616) (h : RdN w v es) (hl : es.length ≤ 1048576) :
    Calls Tryz.prog 70 #[.agg #[.int .u64 f, v]] w fun r w' => r = .returned (.int .i64 (chkB f es)) ∧ Kept [] w w' := by
  obtain ⟨ao, len, cap, kv, vv, rfl, h1, h2, h3, h4, h5⟩ := h
  have H4 := hide h4
  have H5 := hide h5
  clear h4 h5
  subst h1
  obtain ⟨R, hR⟩ : ∃ R, chkB f es = R := ⟨_, rfl⟩
  rw [hR]
  have HR := hide hR
  clear hR
  have HK0 := hide ((Kept.refl [] w).alloc (.cells #[.int .u64 (f : Int), .slice ao es.length cap] 35))
  have HG0 := hide (heap_alloc_new w (.cells #[.int .u64 (f : Int), .slice ao es.length cap] 35))
  go_enter Tryz.func70, Tryz.ntmps70
  have HL64 := hide (fun h : 64 < es.length => by rw [← unhide HR]; exact chkB_long h : 64 < es.length → R = 2)
  by_cases hE : es.length = 0
  · have hE' : ((es.length : Int) == 0) = true := by rw [hE]; rfl
    have h64 : ¬ (64 : Int) < es.length := by omega
    have HC0 := hide (by unfold cntE; rw [if_neg (by omega), if_pos (Or.inl hE)] : cntE f es.length = 3)
    clear hE
    go_wp2_with fail
    go_loopw [27, 3] (fun t12 t3 wr => ∃ (i : Nat), i ≤ es.length ∧ t12 = .int .i64 i ∧ t3 = .int .i64 ((es.take i).foldl (fun a e => leastE a (chkE e)) (cntE f es.length) : Nat) ∧ Hid ((es.take i).foldl (fun a e => leastE a (chkE e)) (cntE f es.length) ≠ 2) ∧ Hid (Kept [] w wr)) (fun t _ _ => es.length - (intOf t).toNat)
    case atStart => exact ⟨0, Nat.zero_le _, rfl, by rw [List.take_zero, List.foldl_nil, unhide HC0]; rfl, hide (by rw [List.take_zero, List.foldl_nil, unhide HC0]; decide), HK0⟩
    case round =>
      obtain ⟨i, hi, rfl, rfl, HA2, HK⟩ := hrel
      by_cases hlt : i < es.length
      · have hlt' : (i : Int) < es.length := by omega
        obtain ⟨b, off, rfl, hcc⟩ := unhide H5 (by omega)
        have hr := hcc i hlt
        have q0 := (unhide HK).cell (hr 0 _ rfl) (by simp)
        have q1 := (unhide HK).cell (hr 1 _ rfl) (by simp)
        have q2 := (unhide HK).cell (hr 2 _ rfl) (by simp)
        rw [Nat.add_zero] at q0
        have HO := hide ((unhide H4 i hlt).old (unhide HK))
        have HSN := hide (foldl_snoc (fun a e => leastE a (chkE e)) (cntE f es.length) es i hlt)
        have HAT := hide (fun h2 : chkE es[i] = 2 => by rw [← unhide HR]; exact chkB_at i hlt h2 : chkE es[i] = 2 → R = 2)
        have HA3 := hide (fold_tri (es.take i) _ (cntE_tri f es.length))
        clear hcc hr
        generalize kv i = kvi at q1 HO
        generalize vv i = vvi at q2 HO
        generalize es[i] = e at q0 HO HSN HAT
        obtain ⟨a8, m8, c8, rfl, _⟩ := id (unhide HO).key
        obtain ⟨a9, m9, c9, rfl, _⟩ := id (unhide HO).val
        generalize (es.take i).foldl (fun a e => leastE a (chkE e)) (cntE f es.length) = acc at HSN HA2 HA3
        go_wp2_with fail
        have HK1 := hide ((unhide HK).alloc (.cells #[.int .u8 (e.k : Int), .slice a8 m8 c8, .slice a9 m9 c9] 71))
        refine Calls.mono (docCheck_any e _ _ _ ((unhide HO).old ((Kept.refl [] wr).alloc _))) ?_
        rintro r w2 ⟨rfl, k2⟩
        have HK2 := hide ((unhide HK1).trans k2 (by simp))
        clear k2
        have hc3 := chkE_tri e
        generalize chkE e = c at HSN HAT hc3 ⊢
        rcases hc3 with hc3 | hc3 | hc3
        · subst hc3
          rcases (unhide HA3) with h9 | h9 | h9
          · subst h9
            go_wp2
            refine ⟨⟨i + 1, by omega, by go_num, by rw [unhide HSN]; rfl, hide (by rw [unhide HSN]; decide), HK2⟩, ?_⟩
            simp [intOf]; omega
          · exact absurd h9 (unhide HA2)
          · subst h9
            go_wp2
            refine ⟨⟨i + 1, by omega, by go_num, by rw [unhide HSN]; rfl, hide (by rw [unhide HSN]; decide), HK2⟩, ?_⟩
            simp [intOf]; omega
        · subst hc3
          have HR2 := hide (unhide HAT rfl)
          go_wp2
          go_ret
          exact ⟨by rw [unhide HR2]; rfl, unhide HK2⟩
        · subst hc3
          rcases (unhide HA3) with h9 | h9 | h9
          · subst h9
            go_wp2
            refine ⟨⟨i + 1, by omega, by go_num, by rw [unhide HSN]; rfl, hide (by rw [unhide HSN]; decide), HK2⟩, ?_⟩
            simp [intOf]; omega
          · exact absurd h9 (unhide HA2)
          · subst h9
            go_wp2
            refine ⟨⟨i + 1, by omega, by go_num, by rw [unhide HSN]; rfl, hide (by rw [unhide HSN]; decide), HK2⟩, ?_⟩
            simp [intOf]; omega
      · have hlt' : ¬ (i : Int) < es.length := by omega
        have hie : i = es.length := by omega
        subst hie
        go_wp2
        go_ret
        exact ⟨by rw [← unhide HR]; rfl, unhide HK⟩
  · have hE' : ((es.length : Int) == 0) = false := by rw [beq_eq_false_iff_ne]; omega
    go_wp2_with fail
    refine Calls.mono (fits5_any f es.length _ hf (by omega)) ?_
    rintro r w1 ⟨rfl, rfl⟩
    by_cases h64 : 64 < es.length
    · have h64' : (64 : Int) < es.length := by omega
      have HR2 := hide (unhide HL64 h64)
      clear h64 hE
      by_cases hfit : f + es.length < 18446744073709551616
      · rw [decide_eq_true hfit]
        clear hfit
        go_wp2
        go_ret
        exact ⟨by rw [unhide HR2]; rfl, unhide HK0⟩
      · rw [decide_eq_false hfit]
        clear hfit
        go_wp2
        go_ret
        exact ⟨by rw [unhide HR2]; rfl, unhide HK0⟩
    · have h64' : ¬ (64 : Int) < es.length := by omega
      by_cases hfit : f + es.length < 18446744073709551616
      · rw [decide_eq_true hfit]
        have HC0 := hide (by unfold cntE; rw [if_neg (by omega), if_neg (by omega)] : cntE f es.length = 0)
        clear hfit h64 hE
        go_wp2_with fail
        go_loopw [27, 3] (fun t12 t3 wr => ∃ (i : Nat), i ≤ es.length ∧ t12 = .int .i64 i ∧ t3 = .int .i64 ((es.take i).foldl (fun a e => leastE a (chkE e)) (cntE f es.length) : Nat) ∧ Hid ((es.take i).foldl (fun a e => leastE a (chkE e)) (cntE f es.length) ≠ 2) ∧ Hid (Kept [] w wr)) (fun t _ _ => es.length - (intOf t).toNat)
        case atStart => exact ⟨0, Nat.zero_le _, rfl, by rw [List.take_zero, List.foldl_nil, unhide HC0]; rfl, hide (by rw [List.take_zero, List.foldl_nil, unhide HC0]; decide), HK0⟩
        case round =>
          obtain ⟨i, hi, rfl, rfl, HA2, HK⟩ := hrel
          by_cases hlt : i < es.length
          · have hlt' : (i : Int) < es.length := by omega
            obtain ⟨b, off, rfl, hcc⟩ := unhide H5 (by omega)
            have hr := hcc i hlt
            have q0 := (unhide HK).cell (hr 0 _ rfl) (by simp)
            have q1 := (unhide HK).cell (hr 1 _ rfl) (by simp)
            have q2 := (unhide HK).cell (hr 2 _ rfl) (by simp)
            rw [Nat.add_zero] at q0
            have HO := hide ((unhide H4 i hlt).old (unhide HK))
            have HSN := hide (foldl_snoc (fun a e => leastE a (chkE e)) (cntE f es.length) es i hlt)
            have HAT := hide (fun h2 : chkE es[i] = 2 => by rw [← unhide HR]; exact chkB_at i hlt h2 : chkE es[i] = 2 → R = 2)
            have HA3 := hide (fold_tri (es.take i) _ (cntE_tri f es.length))
            clear hcc hr
            generalize kv i = kvi at q1 HO
            generalize vv i = vvi at q2 HO
            generalize es[i] = e at q0 HO HSN HAT
            obtain ⟨a8, m8, c8, rfl, _⟩ := id (unhide HO).key
            obtain ⟨a9, m9, c9, rfl, _⟩ := id (unhide HO).val
            generalize (es.take i).foldl (fun a e => leastE a (chkE e)) (cntE f es.length) = acc at HSN HA2 HA3
            go_wp2_with fail
            have HK1 := hide ((unhide HK).alloc (.cells #[.int .u8 (e.k : Int), .slice a8 m8 c8, .slice a9 m9 c9] 71))
            refine Calls.mono (docCheck_any e _ _ _ ((unhide HO).old ((Kept.refl [] wr).alloc _))) ?_
            rintro r w2 ⟨rfl, k2⟩
            have HK2 := hide ((unhide HK1).trans k2 (by simp))
            clear k2
            have hc3 := chkE_tri e
            generalize chkE e = c at HSN HAT hc3 ⊢
            rcases hc3 with hc3 | hc3 | hc3
            · subst hc3
              rcases (unhide HA3) with h9 | h9 | h9
              · subst h9
                go_wp2
                refine ⟨⟨i + 1, by omega, by go_num, by rw [unhide HSN]; rfl, hide (by rw [unhide HSN]; decide), HK2⟩, ?_⟩
                simp [intOf]; omega
              · exact absurd h9 (unhide HA2)
              · subst h9
                go_wp2
                refine ⟨⟨i + 1, by omega, by go_num, by rw [unhide HSN]; rfl, hide (by rw [unhide HSN]; decide), HK2⟩, ?_⟩
                simp [intOf]; omega
            · subst hc3
              have HR2 := hide (unhide HAT rfl)
              go_wp2
              go_ret
              exact ⟨by rw [unhide HR2]; rfl, unhide HK2⟩
            · subst hc3
              rcases (unhide HA3) with h9 | h9 | h9
              · subst h9
                go_wp2
                refine ⟨⟨i + 1, by omega, by go_num, by rw [unhide HSN]; rfl, hide (by rw [unhide HSN]; decide), HK2⟩, ?_⟩
                simp [intOf]; omega
              · exact absurd h9 (unhide HA2)
              · subst h9
                go_wp2
                refine ⟨⟨i + 1, by omega, by go_num, by rw [unhide HSN]; rfl, hide (by rw [unhide HSN]; decide), HK2⟩, ?_⟩
                simp [intOf]; omega
          · have hlt' : ¬ (i : Int) < es.length := by omega
            have hie : i = es.length := by omega
            subst hie
            go_wp2
            go_ret
            exact ⟨by rw [← unhide HR]; rfl, unhide HK⟩
      · rw [decide_eq_false hfit]
        have HC0 := hide (by unfold cntE; rw [if_neg (by omega), if_pos (by omega)] : cntE f es.length = 3)
        clear hfit h64 hE
        go_wp2_with fail
        go_loopw [27, 3] (fun t12 t3 wr => ∃ (i : Nat), i ≤ es.length ∧ t12 = .int .i64 i ∧ t3 = .int .i64 ((es.take i).foldl (fun a e => leastE a (chkE e)) (cntE f es.length) : Nat) ∧ Hid ((es.take i).foldl (fun a e => leastE a (chkE e)) (cntE f es.length) ≠ 2) ∧ Hid (Kept [] w wr)) (fun t _ _ => es.length - (intOf t).toNat)
        case atStart => exact ⟨0, Nat.zero_le _, rfl, by rw [List.take_zero, List.foldl_nil, unhide HC0]; rfl, hide (by rw [List.take_zero, List.foldl_nil, unhide HC0]; decide), HK0⟩
        case round =>
          obtain ⟨i, hi, rfl, rfl, HA2, HK⟩ := hrel
          by_cases hlt : i < es.length
          · have hlt' : (i : Int) < es.length := by omega
            obtain ⟨b, off, rfl, hcc⟩ := unhide H5 (by omega)
            have hr := hcc i hlt
            have q0 := (unhide HK).cell (hr 0 _ rfl) (by simp)
            have q1 := (unhide HK).cell (hr 1 _ rfl) (by simp)
            have q2 := (unhide HK).cell (hr 2 _ rfl) (by simp)
            rw [Nat.add_zero] at q0
            have HO := hide ((unhide H4 i hlt).old (unhide HK))
            have HSN := hide (foldl_snoc (fun a e => leastE a (chkE e)) (cntE f es.length) es i hlt)
            have HAT := hide (fun h2 : chkE es[i] = 2 => by rw [← unhide HR]; exact chkB_at i hlt h2 : chkE es[i] = 2 → R = 2)
            have HA3 := hide (fold_tri (es.take i) _ (cntE_tri f es.length))
            clear hcc hr
            generalize kv i = kvi at q1 HO
            generalize vv i = vvi at q2 HO
            generalize es[i] = e at q0 HO HSN HAT
            obtain ⟨a8, m8, c8, rfl, _⟩ := id (unhide HO).key
            obtain ⟨a9, m9, c9, rfl, _⟩ := id (unhide HO).val
            generalize (es.take i).foldl (fun a e => leastE a (chkE e)) (cntE f es.length) = acc at HSN HA2 HA3
            go_wp2_with fail
            have HK1 := hide ((unhide HK).alloc (.cells #[.int .u8 (e.k : Int), .slice a8 m8 c8, .slice a9 m9 c9] 71))
            refine Calls.mono (docCheck_any e _ _ _ ((unhide HO).old ((Kept.refl [] wr).alloc _))) ?_
            rintro r w2 ⟨rfl, k2⟩
            have HK2 := hide ((unhide HK1).trans k2 (by simp))
            clear k2
            have hc3 := chkE_tri e
            generalize chkE e = c at HSN HAT hc3 ⊢
            rcases hc3 with hc3 | hc3 | hc3
            · subst hc3
              rcases (unhide HA3) with h9 | h9 | h9
              · subst h9
                go_wp2
                refine ⟨⟨i + 1, by omega, by go_num, by rw [unhide HSN]; rfl, hide (by rw [unhide HSN]; decide), HK2⟩, ?_⟩
                simp [intOf]; omega
              · exact absurd h9 (unhide HA2)
              · subst h9
                go_wp2
                refine ⟨⟨i + 1, by omega, by go_num, by rw [unhide HSN]; rfl, hide (by rw [unhide HSN]; decide), HK2⟩, ?_⟩
                simp [intOf]; omega
            · subst hc3
              have HR2 := hide (unhide HAT rfl)
              go_wp2
              go_ret
              exact ⟨by rw [unhide HR2]; rfl, unhide HK2⟩
            · subst hc3
              rcases (unhide HA3) with h9 | h9 | h9
              · subst h9
                go_wp2
                refine ⟨⟨i + 1, by omega, by go_num, by rw [unhide HSN]; rfl, hide (by rw [unhide HSN]; decide), HK2⟩, ?_⟩
                simp [intOf]; omega
              · exact absurd h9 (unhide HA2)
              · subst h9
                go_wp2
                refine ⟨⟨i + 1, by omega, by go_num, by rw [unhide HSN]; rfl, hide (by rw [unhide HSN]; decide), HK2⟩, ?_⟩
                simp [intOf]; omega
          · have hlt' : ¬ (i : Int) < es.length := by omega
            have hie : i = es.length := by omega
            subst hie
            go_wp2
            go_ret
            exact ⟨by rw [← unhide HR]; rfl, unhide HK⟩

set_option maxRecDepth 100000 in
set_option maxHeartbeats 2000000 in
theorem docEncodeBatch_any (f : Nat) (v : Value) (es : List En) (w : World) (hf : f < 18446744073709551616) (h : RdN w v es) (hl : es.length ≤ 1048576) :
    Calls Tryz.prog 40 #[.agg #[.int .u64 f, v]] w fun r w' => ∃ v', r = .returned (.tuple #[v', .int .i64 (chkB f es)]) ∧ Rd w' v' (if chkB f es = 0 then batB f es else []) ∧ Kept [] w w' := by
  have H := hide h
  have HLE := hide (fun h0 : chkB f es = 0 => chkB_zero h0)
  obtain ⟨E, hE⟩ : ∃ E, chkB f es = E := ⟨_, rfl⟩
  rw [hE] at HLE ⊢
  have HE := hide hE
  clear hE
  obtain ⟨B, hB⟩ : ∃ B, (if E = 0 then batB f es else []) = B := ⟨_, rfl⟩
  rw [hB]
  have HB := hide hB
  clear hB
  obtain ⟨ao, len, cap, kv, vv, rfl, h1, h2, h3, h4, h5⟩ := h
  have H4 := hide h4
  have H5 := hide h5
  clear h4 h5
  subst h1
  have HK0 := hide ((Kept.refl [] w).alloc (.cells #[.int .u64 (f : Int), .slice ao es.length cap] 35))
  have HG0 := hide (heap_alloc_new w (.cells #[.int .u64 (f : Int), .slice ao es.length cap] 35))
  go_enter Tryz.func40, Tryz.ntmps40
  go_wp2_with fail
  have hc := docCheckBatch_any f (.slice ao es.length cap) es _ hf ((unhide H).old (unhide HK0)) hl
  rw [unhide HE] at hc
  refine Calls.mono hc ?_
  clear hc
  rintro r w1 ⟨rfl, k1⟩
  have HG1 := hide (k1.heap (unhide HG0) (by simp))
  have HK1 := hide ((unhide HK0).trans k1 (by simp))
  clear k1
  by_cases h0 : E = 0
  · have hb0 : ((E : Int) != 0) = false := by rw [h0]; rfl
    obtain ⟨hl1, hl2, hl3, hl4⟩ := unhide HLE h0
    have HL4 := hide hl4
    have HB2 := hide (by rw [← unhide HB, if_pos h0] : B = batB f es)
    have H0 := hide h0
    clear h0 hl4
    have x0 : w1.cell? ⟨w.heap.size, 0, none⟩ = some (.int .u64 (f : Int)) := by rw [cell_of_row _ _ _ _ _ _ (unhide HG1)]; rfl
    have x1 : w1.cell? ⟨w.heap.size, 1, none⟩ = some (.slice ao es.length cap) := by rw [cell_of_row _ _ _ _ _ _ (unhide HG1)]; rfl
    have HX0 := hide x0
    have HX1 := hide x1
    have HU1 := hide (uv_len f hf)
    have HU2 := hide (uv_len es.length (by omega))
    have hcv : IntKind.u64.wrap (es.length : Int) = es.length := by simp [IntKind.wrap, IntKind.signed, IntKind.bits]; omega
    have hnn : (0 : Int) ≤ es.length := by omega
    go_wp2_with fail
    go_region_held3 (fun w' => w'.cell? ⟨w.heap.size, 0, none⟩ = some (.int .u64 (f : Int)) ∧ w'.cell? ⟨w.heap.size, 1, none⟩ = some (.slice ao es.length cap)) (go_keep) (first
      | (go_at_call 71; with_reducible refine (refUvar_any f w1.drew hf).mono ?_; rintro e w3 ⟨v3, rfl, r3, k3, _⟩; have HR3 := hide r3; have K3 := (Kept.refl [] w1).drew.trans k3 (by simp); have HK3 := hide K3; have y0 := K3.cell (unhide HX0) (by simp); have y1 := K3.cell (unhide HX1) (by simp); clear K3 k3 r3)
      | (go_at_call 71; with_reducible refine (refUvar_any es.length w3 (by omega)).mono ?_; rintro e w4 ⟨v4, rfl, r4, k4, _⟩; have HR4 := hide r4; have HJ4 := hide ((unhide HR3).old k4 (by simp)); have HK4 := hide ((unhide HK3).trans k4 (by simp)); have z0 := k4.cell y0 (by simp); have z1 := k4.cell y1 (by simp); clear k4 r4)
      | (go_at_call 27; refine (join_any _ _ (uv f) (uv es.length) _ (by exact unhide HJ4) (by exact unhide HR4) (by have := unhide HU1; have := unhide HU2; omega)).mono ?_; rintro e w5 ⟨v5, rfl, r5, k5, _⟩; have HR5 := hide r5; have HK5 := hide ((unhide HK4).trans k5 (by simp)); have j0 := k5.cell z0 (by simp); have j1 := k5.cell z1 (by simp); clear k5 r5))
    all_goals
      go_wp2_with fail
      go_loopw [25, 5] (fun t12 t5 wr => ∃ (i : Nat), i ≤ es.length ∧ t12 = .int .i64 i ∧ Hid (Rd wr t5 (uv f ++ uv es.length ++ entB (es.take i))) ∧ Hid (Kept [] w wr)) (fun t _ _ => es.length - (intOf t).toNat)
      case atStart => exact ⟨0, Nat.zero_le _, rfl, by simpa [entB] using HR5, hide ((unhide HK1).trans (unhide HK5) (by simp))⟩
      case round =>
        obtain ⟨i, hi, rfl, HP, HK⟩ := hrel
        have HLI := hide (by have h9 := entB_len (es.take i) (fun e he => unhide HL4 e (List.mem_of_mem_take he)); rw [List.length_take] at h9; omega : (entB (es.take i)).length ≤ 25600)
        by_cases hlt : i < es.length
        · have hlt' : (i : Int) < es.length := by omega
          obtain ⟨b, off, rfl, hcc⟩ := unhide H5 (by omega)
          have hr := hcc i hlt
          have q0 := (unhide HK).cell (hr 0 _ rfl) (by simp)
          have q1 := (unhide HK).cell (hr 1 _ rfl) (by simp)
          have q2 := (unhide HK).cell (hr 2 _ rfl) (by simp)
          rw [Nat.add_zero] at q0
          have HO := hide ((unhide H4 i hlt).old (unhide HK))
          have HSN := hide (entB_snoc es i hlt)
          have HCE := hide (chkE_zero (unhide HL4 es[i] (List.getElem_mem hlt)))
          have HBL := hide (enB_len (unhide HL4 es[i] (List.getElem_mem hlt)))
          clear hcc hr
          generalize kv i = kvi at q1 HO
          generalize vv i = vvi at q2 HO
          generalize es[i] = e at q0 HO HSN HCE HBL
          obtain ⟨a8, m8, c8, rfl, _⟩ := id (unhide HO).key
          obtain ⟨a9, m9, c9, rfl, _⟩ := id (unhide HO).val
          have k1 := (Kept.refl [] wr).alloc (.cells #[.int .u8 (e.k : Int), .slice a8 m8 c8, .slice a9 m9 c9] 71)
          have HKA := hide ((unhide HK).trans k1 (by simp))
          have HPA := hide ((unhide HP).old k1 (by simp))
          have HOA := hide ((unhide HO).old k1)
          clear k1
          go_wp2_with fail
          refine Calls.mono (refBytes_any e _ _ _ (unhide HOA) (by have := unhide HCE; omega)) ?_
          rintro r w7 ⟨v7, rfl, r7, k7⟩
          have HR7 := hide r7
          have HP7 := hide ((unhide HPA).old k7 (by simp))
          have HK7 := hide ((unhide HKA).trans k7 (by simp))
          clear r7 k7
          go_wp2_with fail
          refine Calls.mono (join_any _ _ _ _ _ (unhide HP7) (unhide HR7) (by have := unhide HLI; have := unhide HU1; have := unhide HU2; have := unhide HBL; simp only [List.length_append]; omega)) ?_
          rintro r w8 ⟨v8, rfl, r8, k8, _⟩
          rw [List.append_assoc, ← unhide HSN] at r8
          have HR8 := hide r8
          have HK8 := hide ((unhide HK7).trans k8 (by simp))
          clear r8 k8
          go_wp2
          refine ⟨⟨i + 1, by omega, by go_num, HR8, HK8⟩, ?_⟩
          simp [intOf]; omega
        · have hlt' : ¬ (i : Int) < es.length := by omega
          have hie : i = es.length := by omega
          subst hie
          rw [List.take_length] at HP
          go_wp2
          go_ret2
          refine ⟨_, by rw [unhide H0]; rfl, ?_, unhide HK⟩
          rw [unhide HB2]
          have h9 := unhide HP
          rw [List.append_assoc] at h9
          exact h9
  · have hb0 : ((E : Int) != 0) = true := by rw [bne_iff_ne]; omega
    have HB2 := hide (by rw [← unhide HB, if_neg h0] : B = [])
    clear h0
    go_wp2
    go_ret2
    exact ⟨_, rfl, by rw [unhide HB2]; exact Rd.nil _, unhide HK1⟩
end Go.Proofs.YtckkalmhekfnhaaGreatDoor
namespace Go.Proofs.YtckkalmhekfnhaaGreatDoor
open Go.RowKit Go.BigFrame
set_option linter.unusedVariables false
set_option linter.unusedSimpArgs false

theorem Tryz.size_rhead : (Tryz.prog.info? 41).map (·.size) = some 4 := by kernel_rfl
theorem results_cell {P : Program} {fn : Func} {p : Tmp} {ty : TypeId} (h : fn.results = #[.cell p ty]) (tmps : Array Value) (w : World) (g : Nat) (t : TypeId) (cs : Array Value) (fr : Nat × Nat) (d : TypeDesc)
    (hp : tmps.getD p undef = .pointer (some ⟨g, 0, none⟩)) (hg : w.heap[g]? = some (.cells cs t fr))
    (hu : P.underlying ty = some d) (hd : (match d with | .struct _ | .array _ _ => true | _ => false) = true) (hi : (P.info? ty).map (·.size) = some cs.size) :
    (results fn tmps).run P w = .ok (.agg cs) w := by
  have hp' : tmps[p]?.getD undef = .pointer (some ⟨g, 0, none⟩) := by simpa using hp
  simp [results, h, hp', asAddr, run_loadVar_row w g t ty cs fr d hg hu hd hi]
set_option maxRecDepth 100000 in
set_option maxHeartbeats 2000000 in
theorem sdoc_any (a b c : Nat) (z : Int) (w : World) : Calls Tryz.prog 16 #[.agg #[.int .u64 a, .int .u64 b, .int .u64 c, .int .i64 z]] w fun e w' => e = .returned (.agg #[.int .u64 a, .int .u64 b, .int .u64 c, .int .i64 z]) ∧ Kept [] w w' := by
  have HB0 := hide (((Kept.refl [] (w.alloc (.cells #[.int .u64 (a : Int), .int .u64 (b : Int), .int .u64 (c : Int), .int .i64 z] 32))).alloc (.cells #[.int .u64 0, .int .u64 0, .int .u64 0, .int .i64 0] 41)).heap (heap_alloc_new w (.cells #[.int .u64 (a : Int), .int .u64 (b : Int), .int .u64 (c : Int), .int .i64 z] 32)) (by simp))
  have HZ0 := hide (alloc_at w (.cells #[.int .u64 (a : Int), .int .u64 (b : Int), .int .u64 (c : Int), .int .i64 z] 32) (.cells #[.int .u64 0, .int .u64 0, .int .u64 0, .int .i64 0] 41))
  have HK0 := hide (((Kept.refl [] w).alloc (.cells #[.int .u64 (a : Int), .int .u64 (b : Int), .int .u64 (c : Int), .int .i64 z] 32)).alloc (.cells #[.int .u64 0, .int .u64 0, .int .u64 0, .int .i64 0] 41))
  obtain ⟨d0, d1, d2, d3⟩ := hcells (unhide HB0)
  obtain ⟨x0, x1, x2, x3⟩ := hcells (unhide HZ0)
  obtain ⟨f0, f1, f2, f3⟩ := hfroz (unhide HZ0)
  go_enter Tryz.func16, Tryz.ntmps16
  go_wp2
  refine bodyPost_ret (v := .agg #[.int .u64 (a : Int), .int .u64 (b : Int), .int .u64 (c : Int), .int .i64 z]) ?_ rfl ⟨rfl, ((Kept.refl [] w).alloc _).alloc _⟩
  exact results_cell rfl _ _ (w.heap.size + 1) _ #[.int .u64 (a : Int), .int .u64 (b : Int), .int .u64 (c : Int), .int .i64 z] (0, 0) _ rfl (alloc_at w _ _) Tryz.underlying41 rfl Tryz.size_rhead

set_option maxRecDepth 100000 in
set_option maxHeartbeats 2000000 in
theorem docHead_any (a b c : Nat) (z : Int) (w : World) (ha : a < 18446744073709551616) (hb : b < 18446744073709551616) (hc : c < 18446744073709551616) (hz : -9223372036854775808 ≤ z ∧ z ≤ 9223372036854775807) :
    Calls Tryz.prog 15 #[.agg #[.int .u64 a, .int .u64 b, .int .u64 c, .int .i64 z]] w fun e w' => ∃ v', e = .returned (.tuple #[v', .int .i64 (ehE z)]) ∧ Rd w' v' (ehB a b c z) ∧ Kept [] w w' := by
  have HB0 := hide (heap_alloc_new w (.cells #[.int .u64 (a : Int), .int .u64 (b : Int), .int .u64 (c : Int), .int .i64 z] 41))
  have HK0 := hide ((Kept.refl [] w).alloc (.cells #[.int .u64 (a : Int), .int .u64 (b : Int), .int .u64 (c : Int), .int .i64 z] 41))
  obtain ⟨W1, hW1⟩ : ∃ W, w.alloc (.cells #[.int .u64 (a : Int), .int .u64 (b : Int), .int .u64 (c : Int), .int .i64 z] 41) = W := ⟨_, rfl⟩
  rw [hW1] at HB0 HK0
  have HW1 := hide hW1
  clear hW1
  obtain ⟨d0, d1, d2, d3⟩ := hcells (unhide HB0)
  rw [← unhide HW1] at d0 d1 d2 d3
  by_cases hw : wideB z = true
  · have hE : ehE z = 0 := by simp [ehE, hw]
    have hB : ehB a b c z = frB a (headB a b c z) := by simp [ehB, hw]
    rw [hE, hB]
    clear hE hB
    go_enter Tryz.func15, Tryz.ntmps15
    go_wp2_with fail
    refine Calls.mono (wide5_any z _) ?_
    rintro e w1 ⟨rfl, hw1⟩
    subst w1
    rw [hw]
    go_wp2_with fail
    rw [unhide HW1]
    refine Calls.mono (headBytes_any a b c z W1 ha hb hc hz) ?_
    rintro e w2 ⟨v2, rfl, r2, k2⟩
    have HR2 := hide r2
    have HK2 := hide ((unhide HK0).trans k2 (by simp))
    clear r2 k2 d0 d1 d2 d3
    go_wp2
    go_ret2
    exact ⟨_, rfl, unhide HR2, unhide HK2⟩
  · have hw' : wideB z = false := by simpa using hw
    have hE : ehE z = 1 := by simp [ehE, hw']
    have hB : ehB a b c z = [] := by simp [ehB, hw']
    rw [hE, hB]
    clear hE hB hw
    go_enter Tryz.func15, Tryz.ntmps15
    go_wp2_with fail
    refine Calls.mono (wide5_any z _) ?_
    rintro e w1 ⟨rfl, hw1⟩
    subst w1
    rw [hw']
    go_wp2
    rw [unhide HW1]
    go_ret2
    exact ⟨_, rfl, Rd.nil _, unhide HK0⟩

set_option maxRecDepth 100000 in
set_option maxHeartbeats 2000000 in
theorem docBatch_any (f : Nat) (v : Value) (es : List En) (w : World) (hf : f < 18446744073709551616) (h : RdN w v es) (hl : es.length ≤ 1048576) :
    Calls Tryz.prog 19 #[.agg #[.int .u64 f, v]] w fun r w' => ∃ v', r = .returned (.tuple #[v', .int .i64 (chkB f es)]) ∧ Rd w' v' (sbB f es) ∧ Kept [] w w' := by
  have H := hide h
  obtain ⟨a1, n1, c1, _, _, rfl, _⟩ := id h
  clear h
  obtain ⟨B, hB⟩ : ∃ B, sbB f es = B := ⟨_, rfl⟩
  have HBB := hide hB.symm
  rw [hB]
  clear hB
  have HK0 := hide ((Kept.refl [] w).alloc (.cells #[.int .u64 f, .slice a1 n1 c1] 35))
  have HB0 := hide (heap_alloc_new w (.cells #[.int .u64 f, .slice a1 n1 c1] 35))
  obtain ⟨W1, hW1⟩ : ∃ W, w.alloc (.cells #[.int .u64 f, .slice a1 n1 c1] 35) = W := ⟨_, rfl⟩
  rw [hW1] at HK0 HB0
  have HW1 := hide hW1
  clear hW1
  obtain ⟨d0, d1⟩ := bcells (unhide HB0)
  rw [← unhide HW1] at d0 d1
  go_enter Tryz.func19, Tryz.ntmps19
  go_wp2_with fail
  rw [unhide HW1]
  clear d0 d1
  refine Calls.mono (docEncodeBatch_any f _ es W1 hf ((unhide H).old (unhide HK0)) hl) ?_
  rintro e w2 ⟨v2, rfl, r2, k2⟩
  obtain ⟨a2, l2, c2, rfl, _⟩ := id r2
  have HN2 := hide r2
  have HK2 := hide ((unhide HK0).trans k2 (by simp))
  have HB2 := hide (k2.heap (unhide HB0) (by simp))
  clear r2 k2
  by_cases hc : chkB f es = 0
  · have HB := hide (by simp [sbB, hc] : sbB f es = frB f (batB f es))
    have HL := hide (batB_lenS hc hf)
    rw [if_pos hc] at HN2
    rw [hc]
    obtain ⟨d0, d1⟩ := bcells (unhide HB2)
    go_wp2_with fail
    refine Calls.mono (refLaid_any f _ (batB f es) w2 (unhide HN2) hf (by have := (unhide HL).2; omega)) ?_
    rintro e w3 ⟨v3, rfl, r3, k3, _⟩
    have HN3 := hide r3
    have HK3 := hide ((unhide HK2).trans k3 (by simp))
    obtain ⟨a3, l3, c3, rfl, _⟩ := id r3
    clear r3 k3 d0 d1
    go_wp2
    go_ret2
    exact ⟨_, by rw [hc]; rfl, by rw [unhide HBB, unhide HB]; exact unhide HN3, unhide HK3⟩
  · have HB := hide (by simp [sbB, hc] : sbB f es = [])
    have hc' : ((chkB f es : Int) != 0) = true := by rw [bne_iff_ne]; omega
    go_wp2
    go_ret2
    exact ⟨_, rfl, by rw [unhide HBB, unhide HB]; exact Rd.nil _, unhide HK2⟩
end Go.Proofs.YtckkalmhekfnhaaGreatDoor
namespace Go.Proofs.YtckkalmhekfnhaaGreatDoor
open Go.RowKit Go.BigFrame
set_option linter.unusedVariables false
set_option linter.unusedSimpArgs false

set_option maxRecDepth 100000 in
set_option maxHeartbeats 4000000 in
theorem segmentEncodes_walk (a b c : Nat) (z : Int) (f : Nat) (v : Value) (es : List En) (w : World) (ha : a < 18446744073709551616) (hb : b < 18446744073709551616) (hc : c < 18446744073709551616) (hz : -9223372036854775808 ≤ z ∧ z ≤ 9223372036854775807) (hf : f < 18446744073709551616) (h : RdN w v es) (hl : es.length ≤ 1048576) (_ : True) :
    Calls Tryz.prog 4 #[.agg #[.int .u64 a, .int .u64 b, .int .u64 c, .int .i64 z], .agg #[.int .u64 f, v]] w fun e w' => e = .returned (.bool true) ∧ Below w.heap.size w w' := by
  have H := hide h
  obtain ⟨a1, n1, c1, _, _, rfl, _⟩ := id h
  clear h
  have HH0 := hide (((Kept.refl [] (w.alloc (.cells #[.int .u64 (a : Int), .int .u64 (b : Int), .int .u64 (c : Int), .int .i64 z] 32))).alloc (.cells #[.int .u64 (f : Int), .slice a1 n1 c1] 35)).heap (heap_alloc_new w (.cells #[.int .u64 (a : Int), .int .u64 (b : Int), .int .u64 (c : Int), .int .i64 z] 32)) (by simp))
  have HB0 := hide (alloc_at w (.cells #[.int .u64 (a : Int), .int .u64 (b : Int), .int .u64 (c : Int), .int .i64 z] 32) (.cells #[.int .u64 (f : Int), .slice a1 n1 c1] 35))
  have HK0 := hide (((Kept.refl [] w).alloc (.cells #[.int .u64 (a : Int), .int .u64 (b : Int), .int .u64 (c : Int), .int .i64 z] 32)).alloc (.cells #[.int .u64 (f : Int), .slice a1 n1 c1] 35))
  go_enter Tryz.func4, Tryz.ntmps4
  go_wp2_with fail
  obtain ⟨W0, hW0⟩ : ∃ W, (w.alloc (.cells #[.int .u64 (a : Int), .int .u64 (b : Int), .int .u64 (c : Int), .int .i64 z] 32)).alloc (.cells #[.int .u64 (f : Int), .slice a1 n1 c1] 35) = W := ⟨_, rfl⟩
  rw [hW0] at HH0 HB0 HK0 ⊢
  clear hW0
  refine Calls.mono (sawake_any W0) ?_
  rintro e w1 ⟨rfl, k1⟩
  have HH1 := hide (k1.heap (unhide HH0) (by simp))
  have HB1 := hide (k1.heap (unhide HB0) (by simp))
  have HN1 := hide ((unhide H).old ((unhide HK0).trans k1 (by simp)))
  have HL1 := hide ((unhide HK0).trans k1 (by simp))
  clear k1 HH0 HB0 HK0 H
  obtain ⟨d0, d1, d2, d3⟩ := hcells (unhide HH1)
  go_wp2_with fail
  refine Calls.mono (encodeHead_any a b c z w1 ha hz) ?_
  rintro e w2 ⟨v2, rfl, n2, k2⟩
  obtain ⟨a2, m2, c2, rfl, _⟩ := id n2.1
  have HR2 := hide n2.1
  have HH2 := hide (k2.heap (unhide HH1) (by simp))
  have HB2 := hide (k2.heap (unhide HB1) (by simp))
  have HN2 := hide ((unhide HN1).old k2)
  have HL2 := hide ((unhide HL1).trans k2 (by simp))
  clear n2 k2 d0 d1 d2 d3 HH1 HB1 HN1
  obtain ⟨d0, d1, d2, d3⟩ := hcells (unhide HH2)
  go_wp2_with fail
  refine Calls.mono (sdoc_any a b c z w2) ?_
  rintro e w3 ⟨rfl, k3⟩
  have HR3 := hide ((unhide HR2).old k3 (by simp))
  have HB3 := hide (k3.heap (unhide HB2) (by simp))
  have HN3 := hide ((unhide HN2).old k3)
  have HL3 := hide ((unhide HL2).trans k3 (by simp))
  clear k3 d0 d1 d2 d3 HH2 HB2 HN2 HR2
  go_wp2_with fail
  refine Calls.mono (docHead_any a b c z w3 ha hb hc hz) ?_
  rintro e w4 ⟨v4, rfl, r4, k4⟩
  obtain ⟨a4, m4, c4, rfl, _⟩ := id r4
  have HQ4 := hide r4
  have HR4 := hide ((unhide HR3).old k4 (by simp))
  have HB4 := hide (k4.heap (unhide HB3) (by simp))
  have HN4 := hide ((unhide HN3).old k4)
  have HL4 := hide ((unhide HL3).trans k4 (by simp))
  clear r4 k4 HB3 HN3 HR3
  obtain ⟨d0, d1⟩ := bcells (unhide HB4)
  go_wp2_with fail
  refine Calls.mono (twinBatch_any f _ es w4 (unhide HN4) hl) ?_
  rintro e w5 ⟨v5, rfl, n5, k5⟩
  obtain ⟨a5, m5, c5, _, _, hu5, _⟩ := id n5.rdN
  subst hu5
  have HT5 := hide n5.rdN
  have HQ5 := hide ((unhide HQ4).old k5 (by simp))
  have HR5 := hide ((unhide HR4).old k5 (by simp))
  have HB5 := hide (k5.heap (unhide HB4) (by simp))
  have HN5 := hide ((unhide HN4).old k5)
  have HL5 := hide ((unhide HL4).trans k5 (by simp))
  clear n5 k5 d0 d1 HB4 HN4 HR4 HQ4
  go_wp2_with fail
  refine Calls.mono (segBatch_any f _ es w5 hf (unhide HT5)) ?_
  rintro e w6 ⟨v6, rfl, n6, k6⟩
  obtain ⟨a6, m6, c6, rfl, _⟩ := id n6.1
  have HX6 := hide n6.1
  have HQ6 := hide ((unhide HQ5).old k6 (by simp))
  have HR6 := hide ((unhide HR5).old k6 (by simp))
  have HB6 := hide (k6.heap (unhide HB5) (by simp))
  have HN6 := hide ((unhide HN5).old k6)
  have HL6 := hide ((unhide HL5).trans k6 (by simp))
  clear n6 k6 HB5 HN5 HR5 HQ5 HT5
  obtain ⟨d0, d1⟩ := bcells (unhide HB6)
  go_wp2_with fail
  refine Calls.mono (docBatch_any f _ es w6 hf (unhide HN6) hl) ?_
  rintro e w7 ⟨v7, rfl, r7, k7⟩
  obtain ⟨a7, m7, c7, rfl, _⟩ := id r7
  have HY7 := hide r7
  have HX7 := hide ((unhide HX6).old k7 (by simp))
  have HQ7 := hide ((unhide HQ6).old k7 (by simp))
  have HR7 := hide ((unhide HR6).old k7 (by simp))
  have HL7 := hide ((unhide HL6).trans k7 (by simp))
  clear r7 k7 d0 d1 HB6 HN6 HR6 HQ6 HX6
  go_wp2_with fail
  refine Calls.mono (same_any _ _ _ _ w7 (unhide HR7) (unhide HQ7)) ?_
  rintro e w8 ⟨rfl, m8, h8⟩
  have k8 : Kept [] w7 w8 := by rw [h8]; exact (Kept.refl [] w7).drewN m8
  clear h8
  rw [decide_eq_true rfl]
  have HY8 := hide ((unhide HY7).old k8 (by simp))
  have HX8 := hide ((unhide HX7).old k8 (by simp))
  have HL8 := hide ((unhide HL7).trans k8 (by simp))
  clear k8 HY7 HX7 HQ7 HR7
  go_wp2_with fail
  refine Calls.mono (same_any _ _ _ _ w8 (unhide HX8) (unhide HY8)) ?_
  rintro e w9 ⟨rfl, m9, h9⟩
  have HL9 := hide (by rw [h9]; exact (unhide HL8).drewN m9 : Kept [] w w9)
  clear h9
  rw [decide_eq_true rfl]
  go_wp2
  go_ret
  exact ⟨rfl, (unhide HL9).below (Nat.le_refl _) (by simp)⟩
end Go.Proofs.YtckkalmhekfnhaaGreatDoor
namespace Go.Proofs.YtckkalmhekfnhaaGreatDoor
open Go.ChangeShapes Go.WideShapes Go.ChangeAt Go.RowKit Go.Deep
set_option linter.unusedVariables false
set_option linter.unusedSimpArgs false

theorem own : ownKnob Tryz.prog.godebug = none := by kernel_rfl
theorem laidOut : laidOutB Tryz.prog = true := by kernel_rfl
theorem byte_of_wf {x : Int} (h : (Lit.int .u8 x).wf = true) : 0 ≤ x ∧ x < 256 := by
  simp [Lit.wf, IntKind.min, IntKind.max, IntKind.signed, IntKind.bits] at h
  exact ⟨by omega, by omega⟩
theorem int_of_wf {x : Int} (h : (Lit.int .i64 x).wf = true) : -9223372036854775808 ≤ x ∧ x ≤ 9223372036854775807 := by
  simp [Lit.wf, IntKind.min, IntKind.max, IntKind.signed, IntKind.bits] at h
  exact ⟨by omega, by omega⟩

theorem bulk_one {H : Type} (d : DataW H) : 1 ≤ Rows.uptoBulk d := by
  cases d with
  | lit l => cases l <;> simp [Rows.uptoBulk]
  | nil => simp [Rows.uptoBulk]
  | ptr d => simp [Rows.uptoBulk]
  | slice elems spare => simp [Rows.uptoBulk]
  | agg parts => simp [Rows.uptoBulk]
  | iface t d => simp [Rows.uptoBulk]
  | map entries => simp [Rows.uptoBulk]
  | held h => simp [Rows.uptoBulk]
theorem bulk_len {H : Type} (l : List (DataW H)) : l.length ≤ Rows.uptoBulkAll l := by
  induction l with
  | nil => simp [Rows.uptoBulkAll]
  | cons x r ih => have := bulk_one x; simp only [Rows.uptoBulkAll, List.length_cons]; omega
theorem Tryz.bytes5 : Tryz.prog.bytesOf 5 = 1 := by kernel_rfl

section
variable {H : Type} {enc : TypeId × Value → H} {W : World}

/-- Bytes that came in, as the walks want them, of whatever length. -/
theorem open_bytes {fuel : Nat} {cs : List Value} {x : DataW H × List MemPlace} (h : DataW.trod enc Tryz.prog W 0 (fun _ => true) true fuel 36 cs = some x) :
    ∃ v bs, cs = [v] ∧ (bs.length ≤ 140737488355328 → Rd W v bs) ∧ ((bs = [] ∧ x.1 = .nil) ∨ ∃ elems spare, x.1 = .slice elems spare ∧ elems.length = bs.length) := by
  rcases open_ints Tryz.underlying36 Tryz.underlying5 (by kernel_rfl) h with ⟨rfl, rfl⟩ | ⟨a, len, cap, zs, rfl, _, hl, hm, hz, rfl, hcell, hwz⟩
  · exact ⟨_, [], rfl, fun _ => Rd.nil W, .inl ⟨rfl, rfl⟩⟩
  · have h2 : (lits (H := H) .u8 (zs.take len)).length = len := by simp only [lits, List.length_map, List.length_take]; simp at hz; omega
    have hbl : ((zs.take len).map Int.toNat).length = len := by simp at hz; simp; omega
    refine ⟨_, (zs.take len).map Int.toNat, rfl, fun hB => ⟨_, _, _, rfl, hbl, hl, ⟨by unfold maxLen at hm; omega, by omega⟩, by simp, ?_, ?_⟩, .inr ⟨_, _, rfl, by rw [h2, hbl]⟩⟩
    · intro y hy
      obtain ⟨z, hz1, rfl⟩ := List.mem_map.1 hy
      have := byte_of_wf (hwz z (List.mem_of_mem_take hz1)); omega
    · intro hp
      simp at hz
      have hc0 := hcell 0 (by omega)
      obtain ⟨b, off, spot⟩ := a
      have hspot : spot = none := by simpa [Addr.add] using World.cell?_spot hc0
      subst hspot
      refine ⟨b, off, rfl, fun i hi => ?_⟩
      have hc := hcell i (by omega)
      have hzi : i < zs.length := by omega
      rw [Addr.add_mid] at hc
      rw [hc]
      have hw := byte_of_wf (hwz (zs[i]) (List.getElem_mem hzi))
      simp only [List.getD_eq_getElem?_getD, List.getElem?_eq_getElem hzi, Option.getD_some, List.getElem?_map, List.getElem?_take, hi, if_true, Option.map_some]
      simp [u8]; omega
/-- Their length, by the reach. -/
theorem reach_bytes {ts : List TypeId} {ds : List (DataW H)} (h : (DataW.weightsEach Tryz.prog ts ds).all (· ≤ reachBytes) = true) {j : Nat} (ht : ts[j]? = some 36) {d : DataW H} (hd : ds[j]? = some d) {bs : List Nat}
    (hx : (bs = [] ∧ d = .nil) ∨ ∃ elems spare, d = .slice elems spare ∧ elems.length = bs.length) : bs.length ≤ 140737488351232 := by
  rcases hx with ⟨rfl, _⟩ | ⟨elems, spare, rfl, he⟩
  · simp
  · have := sized_slice h ht hd Tryz.underlying36
    rw [Tryz.bytes5, Nat.mul_one] at this
    unfold reachBytes at this
    omega
/-- Their length, by the bulk. -/
theorem bulk_bytes {d : DataW H} {bs : List Nat} (hx : (bs = [] ∧ d = .nil) ∨ ∃ elems spare, d = .slice elems spare ∧ elems.length = bs.length) : bs.length + 1 ≤ Rows.uptoBulk d := by
  rcases hx with ⟨rfl, rfl⟩ | ⟨elems, spare, rfl, he⟩
  · simp [Rows.uptoBulk]
  · have := bulk_len elems
    simp only [Rows.uptoBulk]; omega
end
end Go.Proofs.YtckkalmhekfnhaaGreatDoor
namespace Go.Proofs.YtckkalmhekfnhaaGreatDoor
open Go.ChangeShapes Go.WideShapes Go.ChangeAt Go.RowKit Go.Deep
set_option linter.unusedVariables false
set_option linter.unusedSimpArgs false
section
variable {H : Type} {enc : TypeId × Value → H} {W : World}

theorem n_bulk_part {d : DataW H} {l : List (DataW H)} (h : d ∈ l) : Rows.uptoBulk d ≤ Rows.uptoBulkAll l := by
  induction l with
  | nil => simp at h
  | cons a l ih =>
    simp only [Rows.uptoBulkAll]
    rcases List.mem_cons.1 h with rfl | h
    · omega
    · have := ih h; omega
theorem n_bulk_len (D : Nat → DataW H) (l : List Nat) (h : ∀ i ∈ l, 1 ≤ Rows.uptoBulk (D i)) : l.length ≤ Rows.uptoBulkAll (l.map D) := by
  induction l with
  | nil => simp
  | cons a l ih =>
    have h1 := h a (by simp)
    have h2 := ih (fun i hi => h i (by simp [hi]))
    simp only [List.map_cons, Rows.uptoBulkAll, List.length_cons]
    omega
theorem n_split (cs : List Value) (a n : Nat) : cs.drop a = (cs.drop a).take n ++ cs.drop (a + n) := by
  rw [← List.drop_drop, List.take_append_drop]
/-- An entry that came in. -/
theorem open_entry {fuel : Nat} {cs : List Value} {x : DataW H × List MemPlace} (h : DataW.trod enc Tryz.prog W 0 (fun _ => true) true fuel 71 cs = some x) (hB : Rows.uptoBulk x.1 ≤ 1048576) :
    ∃ (e : En) (kv vv : Value), cs = (enC e kv vv).toList ∧ OkE W e kv vv ∧ e.key.length + e.val.length + 2 ≤ Rows.uptoBulk x.1 := by
  obtain ⟨xs, n, _, rfl, hl, hlen, hf⟩ := DataW.trod_struct Tryz.underlying71 h
  rw [show Tryz.prog.cellsOf 71 = 3 from by kernel_rfl] at hl
  match xs, hlen with
  | [y0, y1, y2], _ =>
    have ci : Tryz.prog.cellsOf 5 = 1 := by kernel_rfl
    have cb : Tryz.prog.cellsOf 36 = 1 := by kernel_rfl
    have f0 : DataW.trod enc Tryz.prog W 0 (fun _ => true) true n 5 ((cs.drop 0).take 1) = some y0 := by rw [← ci]; exact hf 0 _ rfl
    have f1 : DataW.trod enc Tryz.prog W 0 (fun _ => true) true n 36 ((cs.drop 1).take 1) = some y1 := by have this : DataW.trod enc Tryz.prog W 0 (fun _ => true) true n 36 ((cs.drop 1).take (Tryz.prog.cellsOf 36)) = some y1 := hf 1 _ rfl; rw [cb] at this; exact this
    have f2 : DataW.trod enc Tryz.prog W 0 (fun _ => true) true n 36 ((cs.drop 2).take 1) = some y2 := by have this : DataW.trod enc Tryz.prog W 0 (fun _ => true) true n 36 ((cs.drop 2).take (Tryz.prog.cellsOf 36)) = some y2 := hf 2 _ rfl; rw [cb] at this; exact this
    simp only [List.map_cons, List.map_nil, Rows.uptoBulk, Rows.uptoBulkAll] at hB ⊢
    obtain ⟨k, e0, _, w0⟩ := DataW.trod_int Tryz.underlying5 f0
    obtain ⟨kv, key, e1, hr1, hb1⟩ := open_bytes f1
    obtain ⟨vv, val, e2, hr2, hb2⟩ := open_bytes f2
    have g1 := bulk_bytes hb1
    have g2 := bulk_bytes hb2
    have hk := byte_of_wf w0
    refine ⟨⟨k.toNat, key, val⟩, kv, vv, ?_, ⟨by show k.toNat < 256; omega, hr1 (by omega), hr2 (by omega)⟩, by show key.length + val.length + 2 ≤ _; omega⟩
    have hd : cs.drop 3 = [] := List.drop_eq_nil_of_le (by omega)
    have this := n_split cs 0 1
    rw [e0, n_split cs 1 1, e1, n_split cs 2 1, e2, hd, List.drop_zero] at this
    rw [this]
    simp [enC, Int.toNat_of_nonneg hk.1]
instance : Inhabited En := ⟨⟨0, [], []⟩⟩
/-- Entries that came in. -/
theorem open_entries {fuel : Nat} {cs : List Value} {x : DataW H × List MemPlace} (h : DataW.trod enc Tryz.prog W 0 (fun _ => true) true fuel 33 cs = some x) (hB : Rows.uptoBulk x.1 ≤ 1048576) :
    ∃ v es, cs = [v] ∧ RdN W v es ∧ es.length ≤ 1048576 := by
  rcases open_slice Tryz.underlying33 h with ⟨rfl, rfl⟩ | ⟨a, len, cap, m, n, D, Pl, rfl, _, hl, hm, hmm, rfl, hx⟩
  · exact ⟨_, [], rfl, RdN.nil W, by simp⟩
  · have hC : Tryz.prog.cellsOf 71 = 3 := by kernel_rfl
    rw [hC] at hx
    simp only [if_true] at hmm
    simp only [Rows.uptoBulk] at hB
    obtain ⟨f, hf⟩ := choose_lt (α := En × Value × Value) (n := len) (p := fun i o => ((∀ j v, (enC o.1 o.2.1 o.2.2).toList[j]? = some v → W.cell? ((a.add (i * 3)).add j) = some v) ∧ OkE W o.1 o.2.1 o.2.2) ∧ 1 ≤ Rows.uptoBulk (D i)) (by
      intro i hi
      obtain ⟨cs', h1, h2⟩ := hx i (by omega)
      have hDi : Rows.uptoBulk (D i) ≤ Rows.uptoBulkAll ((List.range len).map D) := n_bulk_part (List.mem_map.2 ⟨i, List.mem_range.2 hi, rfl⟩)
      obtain ⟨o, kv, vv, rfl, ho, hbb⟩ := open_entry h2 (by simp only; omega)
      obtain ⟨_, hlen, hc⟩ := World.cells?_some h1
      refine ⟨(o, kv, vv), ⟨fun j v hv => ?_, ho⟩, by simp only at hbb; omega⟩
      have hj := (List.getElem?_eq_some_iff.1 hv).1
      have := hc j hj
      rw [this, ← hv, List.getElem?_eq_getElem hj])
    refine ⟨_, (List.range len).map fun i => (f i).1, rfl, ⟨some a, len, cap, fun i => (f i).2.1, fun i => (f i).2.2, rfl, by simp, hl, by unfold maxLen at hm; omega, ?_, ?_⟩, ?_⟩
    · intro i hi
      have hi' : i < len := by simpa using hi
      have := (hf i hi').1.2
      simpa using this
    · intro hp
      obtain ⟨b, off, spot⟩ := a
      have h0 := (hf 0 hp).1
      have hc0 := h0.1 0 _ rfl
      have hspot : spot = none := by simpa [Addr.add] using World.cell?_spot hc0
      subst hspot
      refine ⟨b, off, rfl, fun i hi j v hv => ?_⟩
      have hi' : i < len := by simpa using hi
      have e9 : ((List.range len).map fun i => (f i).1)[i] = (f i).1 := by simp
      rw [e9] at hv
      have := (hf i hi').1.1 j v hv
      rw [Addr.add_mid, Addr.add_mid] at this
      exact this
    · have := n_bulk_len D (List.range len) (fun i hi => (hf i (List.mem_range.1 hi)).2)
      simp only [List.length_map, List.length_range] at this ⊢
      omega
/-- A batch that came in. -/
theorem open_batch {fuel : Nat} {cs : List Value} {x : DataW H × List MemPlace} (h : DataW.trod enc Tryz.prog W 0 (fun _ => true) true fuel 35 cs = some x) (hB : Rows.uptoBulk x.1 ≤ 1048576) :
    ∃ (f : Nat) (v : Value) (es : List En), cs = [.int .u64 (f : Int), v] ∧ f < 18446744073709551616 ∧ RdN W v es ∧ es.length ≤ 1048576 := by
  obtain ⟨xs, n, _, rfl, hl, hlen, hf⟩ := DataW.trod_struct Tryz.underlying35 h
  rw [show Tryz.prog.cellsOf 35 = 2 from by kernel_rfl] at hl
  match xs, hlen with
  | [y0, y1], _ =>
    have ci : Tryz.prog.cellsOf 22 = 1 := by kernel_rfl
    have cb : Tryz.prog.cellsOf 33 = 1 := by kernel_rfl
    have f0 : DataW.trod enc Tryz.prog W 0 (fun _ => true) true n 22 ((cs.drop 0).take 1) = some y0 := by rw [← ci]; exact hf 0 _ rfl
    have f1 : DataW.trod enc Tryz.prog W 0 (fun _ => true) true n 33 ((cs.drop 1).take 1) = some y1 := by have this : DataW.trod enc Tryz.prog W 0 (fun _ => true) true n 33 ((cs.drop 1).take (Tryz.prog.cellsOf 33)) = some y1 := hf 1 _ rfl; rw [cb] at this; exact this
    simp only [List.map_cons, List.map_nil, Rows.uptoBulk, Rows.uptoBulkAll] at hB
    obtain ⟨k, e0, _, w0⟩ := DataW.trod_int Tryz.underlying22 f0
    obtain ⟨v, es, e1, hr1, hb1⟩ := open_entries f1 (by omega)
    have hk : 0 ≤ k ∧ k < 18446744073709551616 := by
      simp [Lit.wf, IntKind.min, IntKind.max, IntKind.signed, IntKind.bits] at w0
      omega
    refine ⟨k.toNat, v, es, ?_, by omega, hr1, hb1⟩
    have hd : cs.drop 2 = [] := List.drop_eq_nil_of_le (by omega)
    have this := n_split cs 0 1
    rw [e0, n_split cs 1 1, e1, hd, List.drop_zero] at this
    rw [this]
    simp [Int.toNat_of_nonneg hk.1]
end
end Go.Proofs.YtckkalmhekfnhaaGreatDoor
namespace Go.Proofs.YtckkalmhekfnhaaGreatDoor
open Go.ChangeShapes Go.WideShapes Go.ChangeAt Go.RowKit Go.Deep
set_option linter.unusedVariables false
set_option linter.unusedSimpArgs false
section
variable {H : Type} {enc : TypeId × Value → H} {W : World}
theorem u64_of_wf {k : Int} (w0 : (Lit.int .u64 k).wf = true) : 0 ≤ k ∧ k < 18446744073709551616 := by
  simp [Lit.wf, IntKind.min, IntKind.max, IntKind.signed, IntKind.bits] at w0
  omega
/-- A head that came in. -/
theorem open_head {fuel : Nat} {cs : List Value} {x : DataW H × List MemPlace} (h : DataW.trod enc Tryz.prog W 0 (fun _ => true) true fuel 32 cs = some x) :
    ∃ (a b c : Nat) (z : Int), cs = [.int .u64 (a : Int), .int .u64 (b : Int), .int .u64 (c : Int), .int .i64 z] ∧ a < 18446744073709551616 ∧ b < 18446744073709551616 ∧ c < 18446744073709551616 ∧ -9223372036854775808 ≤ z ∧ z ≤ 9223372036854775807 := by
  obtain ⟨xs, n, _, rfl, hl, hlen, hf⟩ := DataW.trod_struct Tryz.underlying32 h
  rw [show Tryz.prog.cellsOf 32 = 4 from by kernel_rfl] at hl
  match xs, hlen with
  | [y0, y1, y2, y3], _ =>
    have ci : Tryz.prog.cellsOf 22 = 1 := by kernel_rfl
    have cb : Tryz.prog.cellsOf 3 = 1 := by kernel_rfl
    have f0 : DataW.trod enc Tryz.prog W 0 (fun _ => true) true n 22 ((cs.drop 0).take 1) = some y0 := by rw [← ci]; exact hf 0 _ rfl
    have f1 : DataW.trod enc Tryz.prog W 0 (fun _ => true) true n 22 ((cs.drop 1).take 1) = some y1 := by have this : DataW.trod enc Tryz.prog W 0 (fun _ => true) true n 22 ((cs.drop 1).take (Tryz.prog.cellsOf 22)) = some y1 := hf 1 _ rfl; rw [ci] at this; exact this
    have f2 : DataW.trod enc Tryz.prog W 0 (fun _ => true) true n 22 ((cs.drop 2).take 1) = some y2 := by have this : DataW.trod enc Tryz.prog W 0 (fun _ => true) true n 22 ((cs.drop 2).take (Tryz.prog.cellsOf 22)) = some y2 := hf 2 _ rfl; rw [ci] at this; exact this
    have f3 : DataW.trod enc Tryz.prog W 0 (fun _ => true) true n 3 ((cs.drop 3).take 1) = some y3 := by have this : DataW.trod enc Tryz.prog W 0 (fun _ => true) true n 3 ((cs.drop 3).take (Tryz.prog.cellsOf 3)) = some y3 := hf 3 _ rfl; rw [cb] at this; exact this
    obtain ⟨k0, e0, _, w0⟩ := DataW.trod_int Tryz.underlying22 f0
    obtain ⟨k1, e1, _, w1⟩ := DataW.trod_int Tryz.underlying22 f1
    obtain ⟨k2, e2, _, w2⟩ := DataW.trod_int Tryz.underlying22 f2
    obtain ⟨k3, e3, _, w3⟩ := DataW.trod_int Tryz.underlying3 f3
    have h0 := u64_of_wf w0
    have h1 := u64_of_wf w1
    have h2 := u64_of_wf w2
    have h3 := int_of_wf w3
    refine ⟨k0.toNat, k1.toNat, k2.toNat, k3, ?_, by omega, by omega, by omega, h3.1, h3.2⟩
    have hd : cs.drop 4 = [] := List.drop_eq_nil_of_le (by omega)
    have this := n_split cs 0 1
    rw [e0, n_split cs 1 1, e1, n_split cs 2 1, e2, n_split cs 3 1, e3, hd, List.drop_zero] at this
    rw [this]
    simp [Int.toNat_of_nonneg h0.1, Int.toNat_of_nonneg h1.1, Int.toNat_of_nonneg h2.1]
end
end Go.Proofs.YtckkalmhekfnhaaGreatDoor
