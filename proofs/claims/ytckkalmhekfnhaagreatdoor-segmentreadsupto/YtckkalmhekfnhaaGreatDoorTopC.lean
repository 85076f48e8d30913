import Derived.Test.YtckkalmhekfnhaaGreatDoorTopA
import Derived.Test.YtckkalmhekfnhaaGreatDoorTopB
import Derived.Test.YtckkalmhekfnhaaGreatDoorRBlob
import Derived.Test.YtckkalmhekfnhaaGreatDoorCZ
import Derived.Test.YtckkalmhekfnhaaGreatDoorJoin
import Derived.Deep.RegionHeld3
namespace Go.Proofs.YtckkalmhekfnhaaGreatDoor
open Go.RowKit Go.BigFrame
set_option linter.unusedVariables false
set_option linter.unusedSimpArgs false

set_option maxRecDepth 100000 in
set_option maxHeartbeats 2000000 in
theorem twinEntries_any (v : Value) (es : List En) (w : World) (h : RdN w v es) (hl : es.length ≤ 1048576) :
    Calls Tryz.prog 39 #[v] w fun r w' => ∃ v', r = .returned v' ∧ NewN w.heap.size w' v' es ∧ Kept [] w w' := by
  obtain ⟨ao, len, cap, kv, vv, rfl, h1, h2, h3, h4, h5⟩ := h
  have H4 := hide h4
  have H5 := hide h5
  clear h4 h5
  subst h1
  go_enter Tryz.func39, Tryz.ntmps39
  go_wp2_with fail
  go_loopw [8, 3] (fun t12 t3 wr => ∃ (i : Nat) (ts : List (En × Value × Value)), i ≤ es.length ∧ t12 = .int .i64 i ∧ Hid (ts.map (·.1) = es.take i) ∧ Hid (OwnN [] w wr t3 ts)) (fun t _ _ => es.length - (intOf t).toNat)
  case atStart => exact ⟨0, [], Nat.zero_le _, rfl, hide (by simp), hide (OwnN.start (Kept.refl [] w))⟩
  case round =>
    obtain ⟨i, ts, hi, rfl, HTS, HO⟩ := hrel
    have HTL := hide (by have h9 := congrArg List.length (unhide HTS); simp only [List.length_map, List.length_take] at h9; omega : ts.length ≤ 1048576)
    by_cases hlt : i < es.length
    · have hlt' : (i : Int) < es.length := by omega
      obtain ⟨b, off, rfl, hcc⟩ := unhide H5 (by omega)
      have hr := hcc i hlt
      have q0 := (unhide HO).kept.cell (hr 0 _ rfl) (by simp)
      have q1 := (unhide HO).kept.cell (hr 1 _ rfl) (by simp)
      have q2 := (unhide HO).kept.cell (hr 2 _ rfl) (by simp)
      rw [Nat.add_zero] at q0
      have HE := hide ((unhide H4 i hlt).old (unhide HO).kept)
      have HSN := hide (by rw [List.take_succ_eq_append_getElem hlt] : es.take (i + 1) = es.take i ++ [es[i]])
      clear hcc hr
      generalize kv i = kvi at q1 HE
      generalize vv i = vvi at q2 HE
      generalize es[i] = e at q0 HE HSN
      obtain ⟨a8, m8, c8, rfl, _⟩ := id (unhide HE).key
      obtain ⟨a9, m9, c9, rfl, _⟩ := id (unhide HE).val
      have HSZ := hide (unhide HO).kept.size
      go_wp2_with fail
      have k1 := (Kept.refl [] wr).alloc (.cells #[.int .u8 (e.k : Int), .slice a8 m8 c8, .slice a9 m9 c9] 71)
      refine Calls.mono (twinEntry_any e _ _ _ ((unhide HE).old k1)) ?_
      rintro r w2 ⟨kv2, vv2, rfl, ok2, k2, n2⟩
      obtain ⟨a3, m3, c3, hu3, _⟩ := id ok2.key
      subst hu3
      obtain ⟨a4, m4, c4, hu4, _⟩ := id ok2.val
      subst hu4
      have HN2 := hide (fun y hy => by have h9 := n2 y hy; rw [show (wr.alloc (.cells #[.int .u8 (e.k : Int), .slice a8 m8 c8, .slice a9 m9 c9] 71)).heap.size = wr.heap.size + 1 from Array.size_push _] at h9; exact h9 : ∀ y, y ∈ blk (.slice a3 m3 c3) ∨ y ∈ blk (.slice a4 m4 c4) → wr.heap.size + 1 ≤ y)
      have HO2 := hide (((unhide HO).old (M := []) (k1.trans k2 (by simp)) (by simp)).old (M := []) ((Kept.refl [] w2).alloc (.cells #[.int .u8 (e.k : Int), .slice a3 m3 c3, .slice a4 m4 c4] 71)) (by simp))
      have HK2 := hide (ok2.old ((Kept.refl [] w2).alloc (.cells #[.int .u8 (e.k : Int), .slice a3 m3 c3, .slice a4 m4 c4] 71)))
      have HB2 := hide (unhide HO2).kept.size
      have HOL := hide (fun g hg => ((unhide HO).own.lt g hg).2 : ∀ g, u3.ownBlock = some g → g < wr.heap.size)
      clear k1 k2 n2 ok2
      simp only [enC]
      go_wp2_with (at_builtin; refine wpList_pushN rfl _ _ rfl rfl _ w.heap.size u3 ts e (.slice a3 m3 c3) (.slice a4 m4 c4) w2.heap.size (unhide HO2).own (heap_alloc_new _ _) rfl rfl (by have := unhide HTL; omega) (unhide HB2) rfl rfl ?_; intro g cap2 w5 HO5 HG5 HA5)
      refine ⟨⟨i + 1, ts ++ [(e, .slice a3 m3 c3, .slice a4 m4 c4)], by omega, by go_num, hide ?_, hide ?_⟩, ?_⟩
      · rw [List.map_append, unhide HTS, unhide HSN]; rfl
      · refine (unhide HO2).push (unhide HK2) (fun b' hb' => ?_) (unhide HO5) (unhide HG5) (unhide HA5)
        have h9 : wr.heap.size + 1 ≤ b' := by
          rcases hb' with hb' | hb'
          · exact unhide HN2 b' (Or.inl (mem_nblk hb').1)
          · exact unhide HN2 b' (Or.inr (mem_nblk hb').1)
        have h8 := unhide HSZ
        exact ⟨fun e9 => by have h7 := unhide HOL b' e9; omega, by omega⟩
      · simp [intOf]; omega
    · have hlt' : ¬ (i : Int) < es.length := by omega
      have hie : i = es.length := by omega
      subst hie
      rw [List.take_length] at HTS
      go_wp2
      go_ret
      exact ⟨_, rfl, ⟨[], w, ts, (unhide HTS).symm, unhide HO, Nat.le_refl _⟩, (unhide HO).kept⟩

set_option maxRecDepth 100000 in
set_option maxHeartbeats 1000000 in
theorem twinBatch_any (f : Nat) (v : Value) (es : List En) (w : World) (h : RdN w v es) (hl : es.length ≤ 1048576) :
    Calls Tryz.prog 18 #[.agg #[.int .u64 f, v]] w fun r w' => ∃ v', r = .returned (.agg #[.int .u64 f, v']) ∧ NewN w.heap.size w' v' es ∧ Kept [] w w' := by
  have H := hide h
  obtain ⟨a1, m1, c1, _, _, rfl, _⟩ := h
  have HG := hide (((Kept.refl [] (w.alloc (.cells #[.int .u64 (f : Int), .slice a1 m1 c1] 35))).alloc (.cells #[.int .u64 0, .slice none 0 0] 35)).heap (heap_alloc_new w (.cells #[.int .u64 (f : Int), .slice a1 m1 c1] 35)) (by simp))
  have HZ := hide (alloc_at w (.cells #[.int .u64 (f : Int), .slice a1 m1 c1] 35) (.cells #[.int .u64 0, .slice none 0 0] 35))
  have HK0 := hide (((Kept.refl [] w).alloc (.cells #[.int .u64 (f : Int), .slice a1 m1 c1] 35)).alloc (.cells #[.int .u64 0, .slice none 0 0] 35))
  have HSZ := hide (show ((w.alloc (.cells #[.int .u64 (f : Int), .slice a1 m1 c1] 35)).alloc (.cells #[.int .u64 0, .slice none 0 0] 35)).heap.size = w.heap.size + 2 by simp)
  go_enter Tryz.func18, Tryz.ntmps18
  go_wp2_with fail
  obtain ⟨W, hW⟩ : ∃ W, (w.alloc (.cells #[.int .u64 (f : Int), .slice a1 m1 c1] 35)).alloc (.cells #[.int .u64 0, .slice none 0 0] 35) = W := ⟨_, rfl⟩
  rw [hW] at HG HZ HK0 HSZ ⊢
  clear hW
  have x0 : W.cell? ⟨w.heap.size, 0, none⟩ = some (.int .u64 (f : Int)) := by rw [cell_of_row _ _ _ _ _ _ (unhide HG)]; rfl
  have x1 : W.cell? ⟨w.heap.size, 1, none⟩ = some (.slice a1 m1 c1) := by rw [cell_of_row _ _ _ _ _ _ (unhide HG)]; rfl
  have HX0 := hide x0
  have HX1 := hide x1
  have HHW := hide (((unhide H).old (unhide HK0)).old (Kept.refl [] W).drew)
  have hne : w.heap.size ≠ w.heap.size + 1 := by omega
  go_region_held3 (fun w' => w'.cell? ⟨w.heap.size, 0, none⟩ = some (.int .u64 (f : Int)) ∧ w'.cell? ⟨w.heap.size, 1, none⟩ = some (.slice a1 m1 c1)) (go_keep) (first
    | (go_at_call 39; refine (twinEntries_any _ es _ (by exact unhide HHW) hl).mono ?_; rintro e w3 ⟨v3, rfl, r3, k3⟩; obtain ⟨a3, m3, c3, _, _, hu3, _⟩ := id r3.rdN; subst hu3; have HR3 := hide (show NewN W.heap.size w3 (.slice a3 m3 c3) es from r3); have K3 := (Kept.refl [] W).drew.trans k3 (by simp); have HK3 := hide K3; have y0 := K3.cell (unhide HX0) (by simp); have y1 := K3.cell (unhide HX1) (by simp); have HZ3 := hide (K3.heap (unhide HZ) (by simp)); have t0 := cell_of_row _ _ 0 _ _ _ (unhide HZ3); have t1 := cell_of_row _ _ 1 _ _ _ (unhide HZ3); have f0 := frozen_of_row _ _ 0 _ _ (unhide HZ3); have f1 := frozen_of_row _ _ 1 _ _ (unhide HZ3); clear K3 k3 r3))
  all_goals go_wp2
  all_goals
    refine bodyPost_ret (v := .agg #[.int .u64 (f : Int), .slice a3 m3 c3]) ?_ rfl ⟨.slice a3 m3 c3, rfl, ?_, ?_⟩
    · exact results_cell_row rfl _ _ (w.heap.size + 1) _ #[.int .u64 (f : Int), .slice a3 m3 c3] (0, 0) _ rfl (by exact eput2_heap (unhide HZ3) _ _) Tryz.underlying35 rfl Tryz.size_batch
    · have h7 := unhide HSZ
      exact ((unhide HR3).kept (eput2_kept (Kept.refl [w.heap.size + 1] w3) (w.heap.size + 1) (Or.inl (by simp)) _ _) (by simp; omega)).weak (by omega)
    · exact eput2_kept ((unhide HK0).trans (unhide HK3) (by simp)) (w.heap.size + 1) (Or.inr (by omega)) _ _
end Go.Proofs.YtckkalmhekfnhaaGreatDoor
namespace Go.Proofs.YtckkalmhekfnhaaGreatDoor
open Go.RowKit Go.BigFrame
set_option linter.unusedVariables false
set_option linter.unusedSimpArgs false

def tri (n : Nat) : Prop := n = 0 ∨ n = 2 ∨ n = 3
theorem chkE_tri (e : En) : tri (chkE e) := by
  unfold chkE tri; split
  · simp
  · split <;> simp
theorem cntE_tri (f n : Nat) : tri (cntE f n) := by
  unfold cntE tri; split
  · simp
  · split <;> simp
theorem least_tri {a b : Nat} (ha : tri a) (hb : tri b) : tri (leastE a b) := by
  unfold leastE; split
  · exact hb
  · exact ha
theorem fold_tri (es : List En) : ∀ z, tri z → tri (es.foldl (fun a e => leastE a (chkE e)) z) := by
  induction es with
  | nil => intro z h; exact h
  | cons x xs ih => intro z h; exact ih _ (least_tri h (chkE_tri x))
theorem least_two {b : Nat} (hb : tri b) : leastE 2 b = 2 := by
  unfold leastE
  rcases hb with h | h | h <;> subst h <;> rfl
theorem least_two' {a : Nat} (ha : tri a) : leastE a 2 = 2 := by
  unfold leastE
  rcases ha with h | h | h <;> subst h <;> rfl
theorem fold_two (es : List En) : es.foldl (fun a e => leastE a (chkE e)) 2 = 2 := by
  induction es with
  | nil => rfl
  | cons x xs ih => rw [List.foldl_cons, least_two (chkE_tri x)]; exact ih
theorem chkB_long {f : Nat} {es : List En} (h : 64 < es.length) : chkB f es = 2 := by
  unfold chkB
  rw [show cntE f es.length = 2 by unfold cntE; rw [if_pos h]]
  exact fold_two es
theorem chkB_at {f : Nat} {es : List En} (i : Nat) (h : i < es.length) (h2 : chkE es[i] = 2) : chkB f es = 2 := by
  unfold chkB
  have e : es = es.take i ++ (es[i] :: es.drop (i + 1)) := by
    rw [← List.drop_eq_getElem_cons h, List.take_append_drop]
  conv => lhs; rw [e, List.foldl_append, List.foldl_cons]
  rw [← e, h2, least_two' (fold_tri _ _ (cntE_tri _ _))]
  exact fold_two _
theorem least_max {a b : Nat} (ha : tri a) (ha2 : a ≠ 2) (hb : tri b) (hb2 : b ≠ 2) : leastE a b = max a b := by
  unfold leastE
  rcases ha with h | h | h <;> rcases hb with h' | h' | h' <;> subst h <;> subst h' <;> first | rfl | (exact absurd rfl ha2) | (exact absurd rfl hb2)

set_option maxRecDepth 100000 in
set_option maxHeartbeats 1000000 in
theorem fits5_any (f n : Nat) (w : World) (hf : f < 18446744073709551616) (hn : n < 9223372036854775808) :
    Calls Tryz.prog 82 #[.int .u64 f, .int .i64 n] w fun r w' => r = .returned (.bool (decide (f + n < 18446744073709551616))) ∧ w' = w := by
  have h1 : IntKind.u64.wrap (n : Int) = n := by simp [IntKind.wrap, IntKind.signed, IntKind.bits]; omega
  by_cases h : f + n < 18446744073709551616
  · have h2 : IntKind.u64.wrap ((f : Int) + n) = f + n := by simp [IntKind.wrap, IntKind.signed, IntKind.bits]; omega
    have h2' : ((f : Int) + n) % 18446744073709551616 = f + n := by omega
    have h3 : (f : Int) ≤ f + n := by omega
    have HD := hide (decide_eq_true h)
    go_enter Tryz.func82, Tryz.ntmps82
    go_wp2
    go_ret
    exact ⟨by first | rfl | (rw [unhide HD]; rfl), rfl⟩
  · have h2 : IntKind.u64.wrap ((f : Int) + n) = f + n - 18446744073709551616 := by simp [IntKind.wrap, IntKind.signed, IntKind.bits]; omega
    have h2' : ((f : Int) + n) % 18446744073709551616 = f + n - 18446744073709551616 := by omega
    have h3 : ¬ (f : Int) ≤ f + n - 18446744073709551616 := by omega
    have HD := hide (decide_eq_false h)
    go_enter Tryz.func82, Tryz.ntmps82
    go_wp2
    go_ret
    exact ⟨by first | rfl | (rw [unhide HD]; rfl), rfl⟩

set_option maxRecDepth 100000 in
set_option maxHeartbeats 1000000 in
theorem docCheckBatch_any (f : Nat) (v : Value) (es : List En) (w : World) (hf : f < 18446744073709551616) (h : RdN w v es) (hl : es.length ≤ 1048576) :
    Calls Tryz.prog 70 #[.agg #[.int .u64 f, v]] w fun r w' => r = .returned (.int .i64 (chkB f es)) ∧ Kept [] w w' := by
  obtain ⟨ao, len, cap, kv, vv, rfl, h1, h2, h3, h4, h5⟩ := h
  have H4 := hide h4
  have H5 := hide h5
  clear h4 h5
  subst h1
  obtain ⟨R, hR⟩ : ∃ R, chkB f es = R := ⟨_, rfl⟩
  rw [hR]
  have HR := hide hR
  clear hR
  have HK0 := hide ((Kept.refl [] w).alloc (.cells #[.int .u64 (f : Int), .slice ao es.length cap] 35))
  have HG0 := hide (heap_alloc_new w (.cells #[.int .u64 (f : Int), .slice ao es.length cap] 35))
  go_enter Tryz.func70, Tryz.ntmps70
  have HL64 := hide (fun h : 64 < es.length => by rw [← unhide HR]; exact chkB_long h : 64 < es.length → R = 2)
  by_cases hE : es.length = 0
  · have hE' : ((es.length : Int) == 0) = true := by rw [hE]; rfl
    have h64 : ¬ (64 : Int) < es.length := by omega
    have HC0 := hide (by unfold cntE; rw [if_neg (by omega), if_pos (Or.inl hE)] : cntE f es.length = 3)
    clear hE
    go_wp2_with fail
    go_loopw [27, 3] (fun t12 t3 wr => ∃ (i : Nat), i ≤ es.length ∧ t12 = .int .i64 i ∧ t3 = .int .i64 ((es.take i).foldl (fun a e => leastE a (chkE e)) (cntE f es.length) : Nat) ∧ Hid ((es.take i).foldl (fun a e => leastE a (chkE e)) (cntE f es.length) ≠ 2) ∧ Hid (Kept [] w wr)) (fun t _ _ => es.length - (intOf t).toNat)
    case atStart => exact ⟨0, Nat.zero_le _, rfl, by rw [List.take_zero, List.foldl_nil, unhide HC0]; rfl, hide (by rw [List.take_zero, List.foldl_nil, unhide HC0]; decide), HK0⟩
    case round =>
      obtain ⟨i, hi, rfl, rfl, HA2, HK⟩ := hrel
      by_cases hlt : i < es.length
      · have hlt' : (i : Int) < es.length := by omega
        obtain ⟨b, off, rfl, hcc⟩ := unhide H5 (by omega)
        have hr := hcc i hlt
        have q0 := (unhide HK).cell (hr 0 _ rfl) (by simp)
        have q1 := (unhide HK).cell (hr 1 _ rfl) (by simp)
        have q2 := (unhide HK).cell (hr 2 _ rfl) (by simp)
        rw [Nat.add_zero] at q0
        have HO := hide ((unhide H4 i hlt).old (unhide HK))
        have HSN := hide (foldl_snoc (fun a e => leastE a (chkE e)) (cntE f es.length) es i hlt)
        have HAT := hide (fun h2 : chkE es[i] = 2 => by rw [← unhide HR]; exact chkB_at i hlt h2 : chkE es[i] = 2 → R = 2)
        have HA3 := hide (fold_tri (es.take i) _ (cntE_tri f es.length))
        clear hcc hr
        generalize kv i = kvi at q1 HO
        generalize vv i = vvi at q2 HO
        generalize es[i] = e at q0 HO HSN HAT
        obtain ⟨a8, m8, c8, rfl, _⟩ := id (unhide HO).key
        obtain ⟨a9, m9, c9, rfl, _⟩ := id (unhide HO).val
        generalize (es.take i).foldl (fun a e => leastE a (chkE e)) (cntE f es.length) = acc at HSN HA2 HA3
        go_wp2_with fail
        have HK1 := hide ((unhide HK).alloc (.cells #[.int .u8 (e.k : Int), .slice a8 m8 c8, .slice a9 m9 c9] 71))
        refine Calls.mono (docCheck_any e _ _ _ ((unhide HO).old ((Kept.refl [] wr).alloc _))) ?_
        rintro r w2 ⟨rfl, k2⟩
        have HK2 := hide ((unhide HK1).trans k2 (by simp))
        clear k2
        have hc3 := chkE_tri e
        generalize chkE e = c at HSN HAT hc3 ⊢
        rcases hc3 with hc3 | hc3 | hc3
        · subst hc3
          rcases (unhide HA3) with h9 | h9 | h9
          · subst h9
            go_wp2
            refine ⟨⟨i + 1, by omega, by go_num, by rw [unhide HSN]; rfl, hide (by rw [unhide HSN]; decide), HK2⟩, ?_⟩
            simp [intOf]; omega
          · exact absurd h9 (unhide HA2)
          · subst h9
            go_wp2
            refine ⟨⟨i + 1, by omega, by go_num, by rw [unhide HSN]; rfl, hide (by rw [unhide HSN]; decide), HK2⟩, ?_⟩
            simp [intOf]; omega
        · subst hc3
          have HR2 := hide (unhide HAT rfl)
          go_wp2
          go_ret
          exact ⟨by rw [unhide HR2]; rfl, unhide HK2⟩
        · subst hc3
          rcases (unhide HA3) with h9 | h9 | h9
          · subst h9
            go_wp2
            refine ⟨⟨i + 1, by omega, by go_num, by rw [unhide HSN]; rfl, hide (by rw [unhide HSN]; decide), HK2⟩, ?_⟩
            simp [intOf]; omega
          · exact absurd h9 (unhide HA2)
          · subst h9
            go_wp2
            refine ⟨⟨i + 1, by omega, by go_num, by rw [unhide HSN]; rfl, hide (by rw [unhide HSN]; decide), HK2⟩, ?_⟩
            simp [intOf]; omega
      · have hlt' : ¬ (i : Int) < es.length := by omega
        have hie : i = es.length := by omega
        subst hie
        go_wp2
        go_ret
        exact ⟨by rw [← unhide HR]; rfl, unhide HK⟩
  · have hE' : ((es.length : Int) == 0) = false := by rw [beq_eq_false_iff_ne]; omega
    go_wp2_with fail
    refine Calls.mono (fits5_any f es.length _ hf (by omega)) ?_
    rintro r w1 ⟨rfl, rfl⟩
    by_cases h64 : 64 < es.length
    · have h64' : (64 : Int) < es.length := by omega
      have HR2 := hide (unhide HL64 h64)
      clear h64 hE
      by_cases hfit : f + es.length < 18446744073709551616
      · rw [decide_eq_true hfit]
        clear hfit
        go_wp2
        go_ret
        exact ⟨by rw [unhide HR2]; rfl, unhide HK0⟩
      · rw [decide_eq_false hfit]
        clear hfit
        go_wp2
        go_ret
        exact ⟨by rw [unhide HR2]; rfl, unhide HK0⟩
    · have h64' : ¬ (64 : Int) < es.length := by omega
      by_cases hfit : f + es.length < 18446744073709551616
      · rw [decide_eq_true hfit]
        have HC0 := hide (by unfold cntE; rw [if_neg (by omega), if_neg (by omega)] : cntE f es.length = 0)
        clear hfit h64 hE
        go_wp2_with fail
        go_loopw [27, 3] (fun t12 t3 wr => ∃ (i : Nat), i ≤ es.length ∧ t12 = .int .i64 i ∧ t3 = .int .i64 ((es.take i).foldl (fun a e => leastE a (chkE e)) (cntE f es.length) : Nat) ∧ Hid ((es.take i).foldl (fun a e => leastE a (chkE e)) (cntE f es.length) ≠ 2) ∧ Hid (Kept [] w wr)) (fun t _ _ => es.length - (intOf t).toNat)
        case atStart => exact ⟨0, Nat.zero_le _, rfl, by rw [List.take_zero, List.foldl_nil, unhide HC0]; rfl, hide (by rw [List.take_zero, List.foldl_nil, unhide HC0]; decide), HK0⟩
        case round =>
          obtain ⟨i, hi, rfl, rfl, HA2, HK⟩ := hrel
          by_cases hlt : i < es.length
          · have hlt' : (i : Int) < es.length := by omega
            obtain ⟨b, off, rfl, hcc⟩ := unhide H5 (by omega)
            have hr := hcc i hlt
            have q0 := (unhide HK).cell (hr 0 _ rfl) (by simp)
            have q1 := (unhide HK).cell (hr 1 _ rfl) (by simp)
            have q2 := (unhide HK).cell (hr 2 _ rfl) (by simp)
            rw [Nat.add_zero] at q0
            have HO := hide ((unhide H4 i hlt).old (unhide HK))
            have HSN := hide (foldl_snoc (fun a e => leastE a (chkE e)) (cntE f es.length) es i hlt)
            have HAT := hide (fun h2 : chkE es[i] = 2 => by rw [← unhide HR]; exact chkB_at i hlt h2 : chkE es[i] = 2 → R = 2)
            have HA3 := hide (fold_tri (es.take i) _ (cntE_tri f es.length))
            clear hcc hr
            generalize kv i = kvi at q1 HO
            generalize vv i = vvi at q2 HO
            generalize es[i] = e at q0 HO HSN HAT
            obtain ⟨a8, m8, c8, rfl, _⟩ := id (unhide HO).key
            obtain ⟨a9, m9, c9, rfl, _⟩ := id (unhide HO).val
            generalize (es.take i).foldl (fun a e => leastE a (chkE e)) (cntE f es.length) = acc at HSN HA2 HA3
            go_wp2_with fail
            have HK1 := hide ((unhide HK).alloc (.cells #[.int .u8 (e.k : Int), .slice a8 m8 c8, .slice a9 m9 c9] 71))
            refine Calls.mono (docCheck_any e _ _ _ ((unhide HO).old ((Kept.refl [] wr).alloc _))) ?_
            rintro r w2 ⟨rfl, k2⟩
            have HK2 := hide ((unhide HK1).trans k2 (by simp))
            clear k2
            have hc3 := chkE_tri e
            generalize chkE e = c at HSN HAT hc3 ⊢
            rcases hc3 with hc3 | hc3 | hc3
            · subst hc3
              rcases (unhide HA3) with h9 | h9 | h9
              · subst h9
                go_wp2
                refine ⟨⟨i + 1, by omega, by go_num, by rw [unhide HSN]; rfl, hide (by rw [unhide HSN]; decide), HK2⟩, ?_⟩
                simp [intOf]; omega
              · exact absurd h9 (unhide HA2)
              · subst h9
                go_wp2
                refine ⟨⟨i + 1, by omega, by go_num, by rw [unhide HSN]; rfl, hide (by rw [unhide HSN]; decide), HK2⟩, ?_⟩
                simp [intOf]; omega
            · subst hc3
              have HR2 := hide (unhide HAT rfl)
              go_wp2
              go_ret
              exact ⟨by rw [unhide HR2]; rfl, unhide HK2⟩
            · subst hc3
              rcases (unhide HA3) with h9 | h9 | h9
              · subst h9
                go_wp2
                refine ⟨⟨i + 1, by omega, by go_num, by rw [unhide HSN]; rfl, hide (by rw [unhide HSN]; decide), HK2⟩, ?_⟩
                simp [intOf]; omega
              · exact absurd h9 (unhide HA2)
              · subst h9
                go_wp2
                refine ⟨⟨i + 1, by omega, by go_num, by rw [unhide HSN]; rfl, hide (by rw [unhide HSN]; decide), HK2⟩, ?_⟩
                simp [intOf]; omega
          · have hlt' : ¬ (i : Int) < es.length := by omega
            have hie : i = es.length := by omega
            subst hie
            go_wp2
            go_ret
            exact ⟨by rw [← unhide HR]; rfl, unhide HK⟩
      · rw [decide_eq_false hfit]
        have HC0 := hide (by unfold cntE; rw [if_neg (by omega), if_pos (by omega)] : cntE f es.length = 3)
        clear hfit h64 hE
        go_wp2_with fail
        go_loopw [27, 3] (fun t12 t3 wr => ∃ (i : Nat), i ≤ es.length ∧ t12 = .int .i64 i ∧ t3 = .int .i64 ((es.take i).foldl (fun a e => leastE a (chkE e)) (cntE f es.length) : Nat) ∧ Hid ((es.take i).foldl (fun a e => leastE a (chkE e)) (cntE f es.length) ≠ 2) ∧ Hid (Kept [] w wr)) (fun t _ _ => es.length - (intOf t).toNat)
        case atStart => exact ⟨0, Nat.zero_le _, rfl, by rw [List.take_zero, List.foldl_nil, unhide HC0]; rfl, hide (by rw [List.take_zero, List.foldl_nil, unhide HC0]; decide), HK0⟩
        case round =>
          obtain ⟨i, hi, rfl, rfl, HA2, HK⟩ := hrel
          by_cases hlt : i < es.length
          · have hlt' : (i : Int) < es.length := by omega
            obtain ⟨b, off, rfl, hcc⟩ := unhide H5 (by omega)
            have hr := hcc i hlt
            have q0 := (unhide HK).cell (hr 0 _ rfl) (by simp)
            have q1 := (unhide HK).cell (hr 1 _ rfl) (by simp)
            have q2 := (unhide HK).cell (hr 2 _ rfl) (by simp)
            rw [Nat.add_zero] at q0
            have HO := hide ((unhide H4 i hlt).old (unhide HK))
            have HSN := hide (foldl_snoc (fun a e => leastE a (chkE e)) (cntE f es.length) es i hlt)
            have HAT := hide (fun h2 : chkE es[i] = 2 => by rw [← unhide HR]; exact chkB_at i hlt h2 : chkE es[i] = 2 → R = 2)
            have HA3 := hide (fold_tri (es.take i) _ (cntE_tri f es.length))
            clear hcc hr
            generalize kv i = kvi at q1 HO
            generalize vv i = vvi at q2 HO
            generalize es[i] = e at q0 HO HSN HAT
            obtain ⟨a8, m8, c8, rfl, _⟩ := id (unhide HO).key
            obtain ⟨a9, m9, c9, rfl, _⟩ := id (unhide HO).val
            generalize (es.take i).foldl (fun a e => leastE a (chkE e)) (cntE f es.length) = acc at HSN HA2 HA3
            go_wp2_with fail
            have HK1 := hide ((unhide HK).alloc (.cells #[.int .u8 (e.k : Int), .slice a8 m8 c8, .slice a9 m9 c9] 71))
            refine Calls.mono (docCheck_any e _ _ _ ((unhide HO).old ((Kept.refl [] wr).alloc _))) ?_
            rintro r w2 ⟨rfl, k2⟩
            have HK2 := hide ((unhide HK1).trans k2 (by simp))
            clear k2
            have hc3 := chkE_tri e
            generalize chkE e = c at HSN HAT hc3 ⊢
            rcases hc3 with hc3 | hc3 | hc3
            · subst hc3
              rcases (unhide HA3) with h9 | h9 | h9
              · subst h9
                go_wp2
                refine ⟨⟨i + 1, by omega, by go_num, by rw [unhide HSN]; rfl, hide (by rw [unhide HSN]; decide), HK2⟩, ?_⟩
                simp [intOf]; omega
              · exact absurd h9 (unhide HA2)
              · subst h9
                go_wp2
                refine ⟨⟨i + 1, by omega, by go_num, by rw [unhide HSN]; rfl, hide (by rw [unhide HSN]; decide), HK2⟩, ?_⟩
                simp [intOf]; omega
            · subst hc3
              have HR2 := hide (unhide HAT rfl)
              go_wp2
              go_ret
              exact ⟨by rw [unhide HR2]; rfl, unhide HK2⟩
            · subst hc3
              rcases (unhide HA3) with h9 | h9 | h9
              · subst h9
                go_wp2
                refine ⟨⟨i + 1, by omega, by go_num, by rw [unhide HSN]; rfl, hide (by rw [unhide HSN]; decide), HK2⟩, ?_⟩
                simp [intOf]; omega
              · exact absurd h9 (unhide HA2)
              · subst h9
                go_wp2
                refine ⟨⟨i + 1, by omega, by go_num, by rw [unhide HSN]; rfl, hide (by rw [unhide HSN]; decide), HK2⟩, ?_⟩
                simp [intOf]; omega
          · have hlt' : ¬ (i : Int) < es.length := by omega
            have hie : i = es.length := by omega
            subst hie
            go_wp2
            go_ret
            exact ⟨by rw [← unhide HR]; rfl, unhide HK⟩

set_option maxRecDepth 100000 in
set_option maxHeartbeats 2000000 in
theorem docEncodeBatch_any (f : Nat) (v : Value) (es : List En) (w : World) (hf : f < 18446744073709551616) (h : RdN w v es) (hl : es.length ≤ 1048576) :
    Calls Tryz.prog 40 #[.agg #[.int .u64 f, v]] w fun r w' => ∃ v', r = .returned (.tuple #[v', .int .i64 (chkB f es)]) ∧ Rd w' v' (if chkB f es = 0 then batB f es else []) ∧ Kept [] w w' := by
  have H := hide h
  have HLE := hide (fun h0 : chkB f es = 0 => chkB_zero h0)
  obtain ⟨E, hE⟩ : ∃ E, chkB f es = E := ⟨_, rfl⟩
  rw [hE] at HLE ⊢
  have HE := hide hE
  clear hE
  obtain ⟨B, hB⟩ : ∃ B, (if E = 0 then batB f es else []) = B := ⟨_, rfl⟩
  rw [hB]
  have HB := hide hB
  clear hB
  obtain ⟨ao, len, cap, kv, vv, rfl, h1, h2, h3, h4, h5⟩ := h
  have H4 := hide h4
  have H5 := hide h5
  clear h4 h5
  subst h1
  have HK0 := hide ((Kept.refl [] w).alloc (.cells #[.int .u64 (f : Int), .slice ao es.length cap] 35))
  have HG0 := hide (heap_alloc_new w (.cells #[.int .u64 (f : Int), .slice ao es.length cap] 35))
  go_enter Tryz.func40, Tryz.ntmps40
  go_wp2_with fail
  have hc := docCheckBatch_any f (.slice ao es.length cap) es _ hf ((unhide H).old (unhide HK0)) hl
  rw [unhide HE] at hc
  refine Calls.mono hc ?_
  clear hc
  rintro r w1 ⟨rfl, k1⟩
  have HG1 := hide (k1.heap (unhide HG0) (by simp))
  have HK1 := hide ((unhide HK0).trans k1 (by simp))
  clear k1
  by_cases h0 : E = 0
  · have hb0 : ((E : Int) != 0) = false := by rw [h0]; rfl
    obtain ⟨hl1, hl2, hl3, hl4⟩ := unhide HLE h0
    have HL4 := hide hl4
    have HB2 := hide (by rw [← unhide HB, if_pos h0] : B = batB f es)
    have H0 := hide h0
    clear h0 hl4
    have x0 : w1.cell? ⟨w.heap.size, 0, none⟩ = some (.int .u64 (f : Int)) := by rw [cell_of_row _ _ _ _ _ _ (unhide HG1)]; rfl
    have x1 : w1.cell? ⟨w.heap.size, 1, none⟩ = some (.slice ao es.length cap) := by rw [cell_of_row _ _ _ _ _ _ (unhide HG1)]; rfl
    have HX0 := hide x0
    have HX1 := hide x1
    have HU1 := hide (uv_len f hf)
    have HU2 := hide (uv_len es.length (by omega))
    have hcv : IntKind.u64.wrap (es.length : Int) = es.length := by simp [IntKind.wrap, IntKind.signed, IntKind.bits]; omega
    have hnn : (0 : Int) ≤ es.length := by omega
    go_wp2_with fail
    go_region_held3 (fun w' => w'.cell? ⟨w.heap.size, 0, none⟩ = some (.int .u64 (f : Int)) ∧ w'.cell? ⟨w.heap.size, 1, none⟩ = some (.slice ao es.length cap)) (go_keep) (first
      | (go_at_call 71; with_reducible refine (refUvar_any f w1.drew hf).mono ?_; rintro e w3 ⟨v3, rfl, r3, k3, _⟩; have HR3 := hide r3; have K3 := (Kept.refl [] w1).drew.trans k3 (by simp); have HK3 := hide K3; have y0 := K3.cell (unhide HX0) (by simp); have y1 := K3.cell (unhide HX1) (by simp); clear K3 k3 r3)
      | (go_at_call 71; with_reducible refine (refUvar_any es.length w3 (by omega)).mono ?_; rintro e w4 ⟨v4, rfl, r4, k4, _⟩; have HR4 := hide r4; have HJ4 := hide ((unhide HR3).old k4 (by simp)); have HK4 := hide ((unhide HK3).trans k4 (by simp)); have z0 := k4.cell y0 (by simp); have z1 := k4.cell y1 (by simp); clear k4 r4)
      | (go_at_call 27; refine (join_any _ _ (uv f) (uv es.length) _ (by exact unhide HJ4) (by exact unhide HR4) (by have := unhide HU1; have := unhide HU2; omega)).mono ?_; rintro e w5 ⟨v5, rfl, r5, k5, _⟩; have HR5 := hide r5; have HK5 := hide ((unhide HK4).trans k5 (by simp)); have j0 := k5.cell z0 (by simp); have j1 := k5.cell z1 (by simp); clear k5 r5))
    all_goals
      go_wp2_with fail
      go_loopw [25, 5] (fun t12 t5 wr => ∃ (i : Nat), i ≤ es.length ∧ t12 = .int .i64 i ∧ Hid (Rd wr t5 (uv f ++ uv es.length ++ entB (es.take i))) ∧ Hid (Kept [] w wr)) (fun t _ _ => es.length - (intOf t).toNat)
      case atStart => exact ⟨0, Nat.zero_le _, rfl, by simpa [entB] using HR5, hide ((unhide HK1).trans (unhide HK5) (by simp))⟩
      case round =>
        obtain ⟨i, hi, rfl, HP, HK⟩ := hrel
        have HLI := hide (by have h9 := entB_len (es.take i) (fun e he => unhide HL4 e (List.mem_of_mem_take he)); rw [List.length_take] at h9; omega : (entB (es.take i)).length ≤ 25600)
        by_cases hlt : i < es.length
        · have hlt' : (i : Int) < es.length := by omega
          obtain ⟨b, off, rfl, hcc⟩ := unhide H5 (by omega)
          have hr := hcc i hlt
          have q0 := (unhide HK).cell (hr 0 _ rfl) (by simp)
          have q1 := (unhide HK).cell (hr 1 _ rfl) (by simp)
          have q2 := (unhide HK).cell (hr 2 _ rfl) (by simp)
          rw [Nat.add_zero] at q0
          have HO := hide ((unhide H4 i hlt).old (unhide HK))
          have HSN := hide (entB_snoc es i hlt)
          have HCE := hide (chkE_zero (unhide HL4 es[i] (List.getElem_mem hlt)))
          have HBL := hide (enB_len (unhide HL4 es[i] (List.getElem_mem hlt)))
          clear hcc hr
          generalize kv i = kvi at q1 HO
          generalize vv i = vvi at q2 HO
          generalize es[i] = e at q0 HO HSN HCE HBL
          obtain ⟨a8, m8, c8, rfl, _⟩ := id (unhide HO).key
          obtain ⟨a9, m9, c9, rfl, _⟩ := id (unhide HO).val
          have k1 := (Kept.refl [] wr).alloc (.cells #[.int .u8 (e.k : Int), .slice a8 m8 c8, .slice a9 m9 c9] 71)
          have HKA := hide ((unhide HK).trans k1 (by simp))
          have HPA := hide ((unhide HP).old k1 (by simp))
          have HOA := hide ((unhide HO).old k1)
          clear k1
          go_wp2_with fail
          refine Calls.mono (refBytes_any e _ _ _ (unhide HOA) (by have := unhide HCE; omega)) ?_
          rintro r w7 ⟨v7, rfl, r7, k7⟩
          have HR7 := hide r7
          have HP7 := hide ((unhide HPA).old k7 (by simp))
          have HK7 := hide ((unhide HKA).trans k7 (by simp))
          clear r7 k7
          go_wp2_with fail
          refine Calls.mono (join_any _ _ _ _ _ (unhide HP7) (unhide HR7) (by have := unhide HLI; have := unhide HU1; have := unhide HU2; have := unhide HBL; simp only [List.length_append]; omega)) ?_
          rintro r w8 ⟨v8, rfl, r8, k8, _⟩
          rw [List.append_assoc, ← unhide HSN] at r8
          have HR8 := hide r8
          have HK8 := hide ((unhide HK7).trans k8 (by simp))
          clear r8 k8
          go_wp2
          refine ⟨⟨i + 1, by omega, by go_num, HR8, HK8⟩, ?_⟩
          simp [intOf]; omega
        · have hlt' : ¬ (i : Int) < es.length := by omega
          have hie : i = es.length := by omega
          subst hie
          rw [List.take_length] at HP
          go_wp2
          go_ret2
          refine ⟨_, by rw [unhide H0]; rfl, ?_, unhide HK⟩
          rw [unhide HB2]
          have h9 := unhide HP
          rw [List.append_assoc] at h9
          exact h9
  · have hb0 : ((E : Int) != 0) = true := by rw [bne_iff_ne]; omega
    have HB2 := hide (by rw [← unhide HB, if_neg h0] : B = [])
    clear h0
    go_wp2
    go_ret2
    exact ⟨_, rfl, by rw [unhide HB2]; exact Rd.nil _, unhide HK1⟩
end Go.Proofs.YtckkalmhekfnhaaGreatDoor
namespace Go.Proofs.YtckkalmhekfnhaaGreatDoor
open Go.RowKit Go.BigFrame
set_option linter.unusedVariables false
set_option linter.unusedSimpArgs false

theorem Tryz.size_rhead : (Tryz.prog.info? 41).map (·.size) = some 4 := by kernel_rfl
theorem results_cell {P : Program} {fn : Func} {p : Tmp} {ty : TypeId} (h : fn.results = #[.cell p ty]) (tmps : Array Value) (w : World) (g : Nat) (t : TypeId) (cs : Array Value) (fr : Nat × Nat) (d : TypeDesc)
    (hp : tmps.getD p undef = .pointer (some ⟨g, 0, none⟩)) (hg : w.heap[g]? = some (.cells cs t fr))
    (hu : P.underlying ty = some d) (hd : (match d with | .struct _ | .array _ _ => true | _ => false) = true) (hi : (P.info? ty).map (·.size) = some cs.size) :
    (results fn tmps).run P w = .ok (.agg cs) w := by
  have hp' : tmps[p]?.getD undef = .pointer (some ⟨g, 0, none⟩) := by simpa using hp
  simp [results, h, hp', asAddr, run_loadVar_row w g t ty cs fr d hg hu hd hi]
set_option maxRecDepth 100000 in
set_option maxHeartbeats 2000000 in
theorem sdoc_any (a b c : Nat) (z : Int) (w : World) : Calls Tryz.prog 16 #[.agg #[.int .u64 a, .int .u64 b, .int .u64 c, .int .i64 z]] w fun e w' => e = .returned (.agg #[.int .u64 a, .int .u64 b, .int .u64 c, .int .i64 z]) ∧ Kept [] w w' := by
  have HB0 := hide (((Kept.refl [] (w.alloc (.cells #[.int .u64 (a : Int), .int .u64 (b : Int), .int .u64 (c : Int), .int .i64 z] 32))).alloc (.cells #[.int .u64 0, .int .u64 0, .int .u64 0, .int .i64 0] 41)).heap (heap_alloc_new w (.cells #[.int .u64 (a : Int), .int .u64 (b : Int), .int .u64 (c : Int), .int .i64 z] 32)) (by simp))
  have HZ0 := hide (alloc_at w (.cells #[.int .u64 (a : Int), .int .u64 (b : Int), .int .u64 (c : Int), .int .i64 z] 32) (.cells #[.int .u64 0, .int .u64 0, .int .u64 0, .int .i64 0] 41))
  have HK0 := hide (((Kept.refl [] w).alloc (.cells #[.int .u64 (a : Int), .int .u64 (b : Int), .int .u64 (c : Int), .int .i64 z] 32)).alloc (.cells #[.int .u64 0, .int .u64 0, .int .u64 0, .int .i64 0] 41))
  obtain ⟨d0, d1, d2, d3⟩ := hcells (unhide HB0)
  obtain ⟨x0, x1, x2, x3⟩ := hcells (unhide HZ0)
  obtain ⟨f0, f1, f2, f3⟩ := hfroz (unhide HZ0)
  go_enter Tryz.func16, Tryz.ntmps16
  go_wp2
  refine bodyPost_ret (v := .agg #[.int .u64 (a : Int), .int .u64 (b : Int), .int .u64 (c : Int), .int .i64 z]) ?_ rfl ⟨rfl, ((Kept.refl [] w).alloc _).alloc _⟩
  exact results_cell rfl _ _ (w.heap.size + 1) _ #[.int .u64 (a : Int), .int .u64 (b : Int), .int .u64 (c : Int), .int .i64 z] (0, 0) _ rfl (alloc_at w _ _) Tryz.underlying41 rfl Tryz.size_rhead

set_option maxRecDepth 100000 in
set_option maxHeartbeats 2000000 in
theorem docHead_any (a b c : Nat) (z : Int) (w : World) (ha : a < 18446744073709551616) (hb : b < 18446744073709551616) (hc : c < 18446744073709551616) (hz : -9223372036854775808 ≤ z ∧ z ≤ 9223372036854775807) :
    Calls Tryz.prog 15 #[.agg #[.int .u64 a, .int .u64 b, .int .u64 c, .int .i64 z]] w fun e w' => ∃ v', e = .returned (.tuple #[v', .int .i64 (ehE z)]) ∧ Rd w' v' (ehB a b c z) ∧ Kept [] w w' := by
  have HB0 := hide (heap_alloc_new w (.cells #[.int .u64 (a : Int), .int .u64 (b : Int), .int .u64 (c : Int), .int .i64 z] 41))
  have HK0 := hide ((Kept.refl [] w).alloc (.cells #[.int .u64 (a : Int), .int .u64 (b : Int), .int .u64 (c : Int), .int .i64 z] 41))
  obtain ⟨W1, hW1⟩ : ∃ W, w.alloc (.cells #[.int .u64 (a : Int), .int .u64 (b : Int), .int .u64 (c : Int), .int .i64 z] 41) = W := ⟨_, rfl⟩
  rw [hW1] at HB0 HK0
  have HW1 := hide hW1
  clear hW1
  obtain ⟨d0, d1, d2, d3⟩ := hcells (unhide HB0)
  rw [← unhide HW1] at d0 d1 d2 d3
  by_cases hw : wideB z = true
  · have hE : ehE z = 0 := by simp [ehE, hw]
    have hB : ehB a b c z = frB a (headB a b c z) := by simp [ehB, hw]
    rw [hE, hB]
    clear hE hB
    go_enter Tryz.func15, Tryz.ntmps15
    go_wp2_with fail
    refine Calls.mono (wide5_any z _) ?_
    rintro e w1 ⟨rfl, hw1⟩
    subst w1
    rw [hw]
    go_wp2_with fail
    rw [unhide HW1]
    refine Calls.mono (headBytes_any a b c z W1 ha hb hc hz) ?_
    rintro e w2 ⟨v2, rfl, r2, k2⟩
    have HR2 := hide r2
    have HK2 := hide ((unhide HK0).trans k2 (by simp))
    clear r2 k2 d0 d1 d2 d3
    go_wp2
    go_ret2
    exact ⟨_, rfl, unhide HR2, unhide HK2⟩
  · have hw' : wideB z = false := by simpa using hw
    have hE : ehE z = 1 := by simp [ehE, hw']
    have hB : ehB a b c z = [] := by simp [ehB, hw']
    rw [hE, hB]
    clear hE hB hw
    go_enter Tryz.func15, Tryz.ntmps15
    go_wp2_with fail
    refine Calls.mono (wide5_any z _) ?_
    rintro e w1 ⟨rfl, hw1⟩
    subst w1
    rw [hw']
    go_wp2
    rw [unhide HW1]
    go_ret2
    exact ⟨_, rfl, Rd.nil _, unhide HK0⟩

set_option maxRecDepth 100000 in
set_option maxHeartbeats 2000000 in
theorem docBatch_any (f : Nat) (v : Value) (es : List En) (w : World) (hf : f < 18446744073709551616) (h : RdN w v es) (hl : es.length ≤ 1048576) :
    Calls Tryz.prog 19 #[.agg #[.int .u64 f, v]] w fun r w' => ∃ v', r = .returned (.tuple #[v', .int .i64 (chkB f es)]) ∧ Rd w' v' (sbB f es) ∧ Kept [] w w' := by
  have H := hide h
  obtain ⟨a1, n1, c1, _, _, rfl, _⟩ := id h
  clear h
  obtain ⟨B, hB⟩ : ∃ B, sbB f es = B := ⟨_, rfl⟩
  have HBB := hide hB.symm
  rw [hB]
  clear hB
  have HK0 := hide ((Kept.refl [] w).alloc (.cells #[.int .u64 f, .slice a1 n1 c1] 35))
  have HB0 := hide (heap_alloc_new w (.cells #[.int .u64 f, .slice a1 n1 c1] 35))
  obtain ⟨W1, hW1⟩ : ∃ W, w.alloc (.cells #[.int .u64 f, .slice a1 n1 c1] 35) = W := ⟨_, rfl⟩
  rw [hW1] at HK0 HB0
  have HW1 := hide hW1
  clear hW1
  obtain ⟨d0, d1⟩ := bcells (unhide HB0)
  rw [← unhide HW1] at d0 d1
  go_enter Tryz.func19, Tryz.ntmps19
  go_wp2_with fail
  rw [unhide HW1]
  clear d0 d1
  refine Calls.mono (docEncodeBatch_any f _ es W1 hf ((unhide H).old (unhide HK0)) hl) ?_
  rintro e w2 ⟨v2, rfl, r2, k2⟩
  obtain ⟨a2, l2, c2, rfl, _⟩ := id r2
  have HN2 := hide r2
  have HK2 := hide ((unhide HK0).trans k2 (by simp))
  have HB2 := hide (k2.heap (unhide HB0) (by simp))
  clear r2 k2
  by_cases hc : chkB f es = 0
  · have HB := hide (by simp [sbB, hc] : sbB f es = frB f (batB f es))
    have HL := hide (batB_lenS hc hf)
    rw [if_pos hc] at HN2
    rw [hc]
    obtain ⟨d0, d1⟩ := bcells (unhide HB2)
    go_wp2_with fail
    refine Calls.mono (refLaid_any f _ (batB f es) w2 (unhide HN2) hf (by have := (unhide HL).2; omega)) ?_
    rintro e w3 ⟨v3, rfl, r3, k3, _⟩
    have HN3 := hide r3
    have HK3 := hide ((unhide HK2).trans k3 (by simp))
    obtain ⟨a3, l3, c3, rfl, _⟩ := id r3
    clear r3 k3 d0 d1
    go_wp2
    go_ret2
    exact ⟨_, by rw [hc]; rfl, by rw [unhide HBB, unhide HB]; exact unhide HN3, unhide HK3⟩
  · have HB := hide (by simp [sbB, hc] : sbB f es = [])
    have hc' : ((chkB f es : Int) != 0) = true := by rw [bne_iff_ne]; omega
    go_wp2
    go_ret2
    exact ⟨_, rfl, by rw [unhide HBB, unhide HB]; exact Rd.nil _, unhide HK2⟩
end Go.Proofs.YtckkalmhekfnhaaGreatDoor
namespace Go.Proofs.YtckkalmhekfnhaaGreatDoor
open Go.RowKit Go.BigFrame
set_option linter.unusedVariables false
set_option linter.unusedSimpArgs false

end Go.Proofs.YtckkalmhekfnhaaGreatDoor

namespace Go.Proofs.YtckkalmhekfnhaaGreatDoor
open Go.RowKit
set_option linter.unusedVariables false
set_option linter.unusedSimpArgs false
attribute [local go_sem ↓] Go.wp_at_zero Go.wp_at_succ

/-- A variable of three cells, as a walk wants it. -/
theorem three {w : World} {b : Nat} {v0 v1 v2 : Value} {t : TypeId} (h : w.heap[b]? = some (.cells #[v0, v1, v2] t (0, 0))) :
    (w.cell? ⟨b, 0, none⟩ = some v0 ∧ w.cell? ⟨b, 1, none⟩ = some v1 ∧ w.cell? ⟨b, 2, none⟩ = some v2) ∧ (w.frozen? ⟨b, 0, none⟩ = false ∧ w.frozen? ⟨b, 1, none⟩ = false ∧ w.frozen? ⟨b, 2, none⟩ = false) := by
  refine ⟨⟨?_, ?_, ?_⟩, ?_, ?_, ?_⟩ <;> first | (rw [cell_of_row _ _ _ _ _ _ h]; rfl) | exact frozen_of_row _ _ _ _ _ h

/-- The document's reader as a value. -/
abbrev rrV (gv : Value) (i e : Int) : Value := .agg #[gv, .int .i64 i, .int .i64 e]

set_option maxRecDepth 100000 in
set_option maxHeartbeats 1000000 in
theorem fault_any (ao : Option Addr) (n c : Nat) (i e f : Int) (w : World) :
    Calls Tryz.prog 120 #[rrV (.slice ao n c) i e, .int .i64 f] w fun r w' => r = .returned (rrV (.slice ao n c) i f) ∧ Kept [] w w' := by
  go_enter Tryz.func120, Tryz.ntmps120
  go_wp2
  exact bodyPost_ret (v := .agg #[.slice ao n c, .int .i64 i, .int .i64 f]) (by simp [results, Tryz.results120, go_sem]) rfl ⟨rfl, ((Kept.refl [] w).alloc _).alloc _⟩

set_option maxRecDepth 100000 in
set_option maxHeartbeats 4000000 in
theorem takeWide_any (ao : Option Addr) (c : Nat) (p : List Nat) (i e n : Nat) (w : World) (h : Rd w (.slice ao p.length c) p) (hi : i ≤ p.length) (hn : n ≤ 8) :
    Calls Tryz.prog 78 #[rrV (.slice ao p.length c) i e, .int .i64 n] w fun r w' => r = .returned (.tuple #[.int .u64 (rNum p i e n).1, rrV (.slice ao p.length c) (rNum p i e n).2.1 (rNum p i e n).2.2]) ∧ Kept [] w w' := by
  have hl := h.len
  by_cases he : e = 0
  · subst he
    by_cases hs : p.length - i < n
    · have HV := hide (by simp [rNum, hs] : rNum p i 0 n = (0, i, 3))
      have hs' : (p.length : Int) - i < n := by omega
      clear h
      go_enter Tryz.func78, Tryz.ntmps78
      go_wp2_with fail
      refine (fault_any ao p.length c i 0 3 _).mono ?_
      rintro r w1 ⟨rfl, k1⟩
      obtain ⟨⟨c0, c1, c2⟩, f0, f1, f2⟩ := three (k1.heap (heap_alloc2_new w _ _) (by simp))
      have HK1 := hide ((((Kept.refl [] w).alloc _).alloc _).trans k1 (by simp))
      have hsz : w.heap.size ≤ w.heap.size + 1 := by omega
      clear k1
      go_wp2
      refine bodyPost_ret (v := .tuple #[.int .u64 0, rrV (.slice ao p.length c) i 3]) (by simp [results, Tryz.results78, go_sem, c0, c1, c2]) rfl ⟨by rw [unhide HV]; rfl, ?_⟩
      exact (((unhide HK1).setCell (by simp) _).setCell (by simp) _).setCell (by simp) _
    · have HV := hide (by simp [rNum, hs] : rNum p i 0 n = (beL ((p.drop i).take n), i + n, 0))
      have hs' : ¬ (p.length : Int) - i < n := by omega
      have hq : ∀ k, k < n → (p.drop i).getD k 0 = p.getD (i + k) 0 := fun k hk => by simp [List.getD_eq_getElem?_getD]
      have hsn : ∀ k, k < n → beL (((p.drop i).take n).take (k + 1)) = (beL (((p.drop i).take n).take k) * 256 + p.getD (i + k) 0) % 18446744073709551616 := fun k hk => by
        rw [beL_snoc _ k (by simp; omega)]
        congr 2
        simp [List.getD_eq_getElem?_getD, List.getElem?_take, hk]
      have hlt64 : ∀ k, beL (((p.drop i).take n).take k) < 18446744073709551616 := fun k => beL_lt _
      have hfull : ((p.drop i).take n).take n = (p.drop i).take n := by rw [List.take_take, Nat.min_self]
      obtain ⟨ao', len', cap', hE, _, h2, ⟨h3, h3'⟩, h4, h5, h6⟩ := h
      cases hE
      have hgb := fun k => getD_byte h5 k
      have H6 := hide h6
      have Hsn := hide hsn
      have Hlt := hide hlt64
      have Hgb := hide hgb
      obtain ⟨q, hqq⟩ : ∃ q, (p.drop i).take n = q := ⟨_, rfl⟩
      rw [hqq] at HV Hsn Hlt hfull
      have Hfull := hide hfull
      clear h6 h4 h5 hsn hlt64 hgb hq hqq hfull
      go_enter Tryz.func78, Tryz.ntmps78
      go_wp2_with fail
      go_loopw [6, 7] (fun t6 t7 wr => ∃ k : Nat, k ≤ n ∧ t7 = .int .i64 k ∧ t6 = .int .u64 (beL (q.take k)) ∧ wr = (w.alloc (.cells #[.slice ao p.length c, .int .i64 i, .int .i64 0] 139)).alloc (.cells #[.slice none 0 0, .int .i64 0, .int .i64 0] 139)) (fun _ i _ => n - (intOf i).toNat)
      case atStart => exact ⟨0, Nat.zero_le _, rfl, by simp [beL], rfl⟩
      case round =>
        obtain ⟨k, hk, rfl, rfl, rfl⟩ := hrel
        by_cases hlt : k < n
        · obtain ⟨bb, oo, rfl, hc⟩ := unhide H6 (by omega)
          have hck := hc (i + k) (by omega)
          have hbb : bb < w.heap.size := block_lt_of_cell hck
          have hb1 := unhide Hgb (i + k)
          have hs1 := unhide Hsn k hlt
          have ha1 := unhide Hlt k
          obtain ⟨z, hz⟩ : ∃ z, p.getD (i + k) 0 = z := ⟨_, rfl⟩
          obtain ⟨a, ha⟩ : ∃ a, beL (q.take k) = a := ⟨_, rfl⟩
          obtain ⟨a', ha'⟩ : ∃ a', beL (q.take (k + 1)) = a' := ⟨_, rfl⟩
          rw [hz] at hck hb1 hs1
          rw [ha] at hs1 ha1 ⊢
          rw [ha'] at hs1
          have Ha' := hide ha'
          have hval : IntKind.u64.wrap (IntKind.u64.wrap ((a : Int) * 256) + (z : Int)) = (a' : Int) := by rw [hs1, IntKind.wrap_u64, IntKind.wrap_u64]; omega
          have hval2 : IntKind.u64.wrap ((a : Int) * 256 % 18446744073709551616 + (z : Int)) = (a' : Int) := by rw [hs1, IntKind.wrap_u64]; omega
          have hi0 : (0 : Int) ≤ (i : Int) + k := by omega
          have hi1 : (i : Int) + k < p.length := by omega
          have hlt' : (k : Int) < n := by omega
          have Hv := hide hval
          have Hs1 := hide hs1
          clear hc hz ha ha' hs1
          go_wp2
          go_roundw
          case rel => exact ⟨k + 1, by omega, by go_num, by rw [unhide Ha'], trivial⟩
          case measure => simp [intOf]; omega
        · have hkn : k = n := by omega
          subst hkn
          have hlt' : ¬ (k : Int) < k := by omega
          rw [unhide Hfull]
          obtain ⟨a, ha⟩ : ∃ a, beL q = a := ⟨_, rfl⟩
          rw [ha] at HV ⊢
          clear ha
          go_wp2_with fail
          go_region
          all_goals go_wp2
          refine bodyPost_ret (v := .tuple #[.int .u64 a, rrV (.slice ao p.length c) ((i : Int) + k) 0]) (by simp [results, Tryz.results78, go_sem]) rfl ⟨by rw [unhide HV]; simp, (by repeat (first | exact Kept.refl _ _ | apply Kept.drew | apply Kept.alloc | (refine Kept.setCell ?_ (by simp) _)))⟩
  · have he' : ((e : Int) != 0) = true := by rw [bne_iff_ne]; omega
    have HV := hide (by simp [rNum, he] : rNum p i e n = (0, i, e))
    clear he h
    go_enter Tryz.func78, Tryz.ntmps78
    go_wp2_with fail
    go_region
    all_goals go_wp2
    refine bodyPost_ret (v := .tuple #[.int .u64 0, rrV (.slice ao p.length c) i e]) (by simp [results, Tryz.results78, go_sem]) rfl ⟨by rw [unhide HV]; rfl, (by repeat (first | exact Kept.refl _ _ | apply Kept.drew | apply Kept.alloc | (refine Kept.setCell ?_ (by simp) _)))⟩

set_option maxRecDepth 100000 in
set_option maxHeartbeats 4000000 in
theorem takeUvar_any (ao : Option Addr) (c : Nat) (p : List Nat) (i e : Nat) (w : World) (h : Rd w (.slice ao p.length c) p) (hi : i ≤ p.length) :
    Calls Tryz.prog 80 #[rrV (.slice ao p.length c) i e] w fun r w' => r = .returned (.tuple #[.int .u64 (rUvar p i e).1, rrV (.slice ao p.length c) (rUvar p i e).2.1 (rUvar p i e).2.2]) ∧ Kept [] w w' := by
  have hl := h.len
  by_cases he : e = 0
  · subst he
    have HV := hide (by simp [rUvar] : rUvar p i 0 = if (fuv (p.drop i) 0 0).2 = 0 then (0, i, 3) else ((fuv (p.drop i) 0 0).1, i + (fuv (p.drop i) 0 0).2, 0))
    obtain ⟨ao', len', cap', hE, _, h2, ⟨h3, h3'⟩, h4, h5, h6⟩ := h
    cases hE
    have hgb := fun k => getD_byte h5 k
    have H6 := hide h6
    have Hgb := hide hgb
    obtain ⟨F, hF⟩ : ∃ F, fuv (p.drop i) 0 0 = F := ⟨_, rfl⟩
    rw [hF] at HV
    have HF := hide hF
    clear h6 h4 h5 hgb hF
    go_enter Tryz.func80, Tryz.ntmps80
    go_wp2_with fail
    go_loopw [4, 5, 6, 7] (fun t4 t5 t6 t7 wr => ∃ k a u : Nat, k ≤ 9 ∧ i + k ≤ p.length ∧ u ≤ 9223372036854775808 ∧ t6 = .int .i64 k ∧ t4 = .int .u64 a ∧ t5 = .int .u64 u ∧ Hid (u = 128 ^ k) ∧ Hid (a < 128 ^ k) ∧ Hid (fuv (p.drop (i + k)) k a = F) ∧ wr = (w.alloc (.cells #[.slice ao p.length c, .int .i64 i, .int .i64 0] 139)).alloc (.cells #[.slice none 0 0, .int .i64 0, .int .i64 0] 139)) (fun _ _ i _ _ => 10 - (intOf i).toNat)
    case atStart => exact ⟨0, 0, 1, by omega, by omega, by omega, rfl, rfl, rfl, hide (by simp), hide (by simp), HF, rfl⟩
    case round =>
      obtain ⟨k, a, u, hk9, hik, hu, rfl, rfl, rfl, Hu, Ha, Hf, rfl⟩ := hrel
      have hk10 : (k : Int) < 10 := by omega
      by_cases hlt : i + k < p.length
      · obtain ⟨bb, oo, rfl, hc⟩ := unhide H6 (by omega)
        have hck := hc (i + k) hlt
        have hbb : bb < w.heap.size := block_lt_of_cell hck
        have hcb := unhide Hgb (i + k)
        have hfk := unhide Hf
        rw [drop_cons hlt, fuv] at hfk
        obtain ⟨z, hz⟩ : ∃ z, p.getD (i + k) 0 = z := ⟨_, rfl⟩
        rw [hz] at hck hcb hfk
        have hi0 : (0 : Int) ≤ (i : Int) + k := by omega
        have hi1 : (i : Int) + k < p.length := by omega
        have hi2 : ¬ (p.length : Int) ≤ (i : Int) + k := by omega
        clear hc hz
        by_cases h9 : k = 9 ∧ z ≠ 1
        · rw [if_pos h9] at hfk
          have t9 : ((k : Int) == 9) = true := by simp; omega
          have t1 : ((z : Int) != 1) = true := by rw [bne_iff_ne]; omega
          have HF0 := hide hfk
          clear hfk h9
          go_wp2_with fail
          refine (fault_any _ p.length c i 0 3 _).mono ?_
          rintro r w1 ⟨rfl, k1⟩
          obtain ⟨⟨c0, c1, c2⟩, f0, f1, f2⟩ := three (k1.heap (heap_alloc2_new w _ _) (by simp))
          have HK1 := hide ((((Kept.refl [] w).alloc _).alloc _).trans k1 (by simp))
          clear k1
          go_wp2
          refine bodyPost_ret (v := .tuple #[.int .u64 0, rrV (.slice (some ⟨bb, oo, none⟩) p.length c) i 3]) (by simp [results, Tryz.results80, go_sem, c0, c1, c2]) rfl ⟨by rw [unhide HV, ← unhide HF0]; rfl, ?_⟩
          exact (((unhide HK1).setCell (by simp) _).setCell (by simp) _).setCell (by simp) _
        · rw [if_neg h9] at hfk
          have h9' : k = 9 → z = 1 := by intro h; omega
          have hgl := group_lt k z hk9 h9'
          have hgn := group_next k z a (unhide Ha)
          rw [← unhide Hu] at hgl
          have hp9 : 128 ^ k ≤ 128 ^ 9 := Nat.pow_le_pow_right (by omega) hk9
          have h99 : (128 : Nat) ^ 9 = 9223372036854775808 := (by decide)
          have haa := unhide Ha
          obtain ⟨s, hs⟩ : ∃ s, z % 128 * u = s := ⟨_, rfl⟩
          rw [hs] at hgl
          have hs2 : z % 128 * 128 ^ k = s := by rw [← unhide Hu]; exact hs
          rw [hs2] at hfk hgn
          have hm : IntKind.u64.wrap ((z : Int) % 128 * (u : Int)) = (s : Int) := by
            rw [show ((z : Int) % 128 * (u : Int)) = ((z % 128 * u : Nat) : Int) from by simp, hs, IntKind.wrap_u64]; omega
          have hsum : (a : Int) + s ≤ 18446744073709551615 := by
            rcases Nat.lt_or_ge k 9 with h | h
            · have : 128 ^ (k + 1) ≤ 128 ^ 9 := Nat.pow_le_pow_right (by omega) (by omega)
              omega
            · have hk : k = 9 := by omega
              have hz1 := h9' hk
              subst hz1
              have : s = u := by rw [← hs]; simp
              have hu9 := unhide Hu
              rw [hk, h99] at hu9
              rw [hk, h99] at haa
              omega
          clear hp9 haa
          by_cases hbig : 128 ≤ z
          · rw [if_pos hbig] at hfk
            have hk8 : k ≤ 8 := by omega
            have t9 : ((k : Int) == 9) = false := by simp; omega
            have tb : ¬ (z : Int) < 128 := by omega
            have hu8 : u ≤ 72057594037927936 := by
              rw [unhide Hu]
              have : 128 ^ k ≤ 128 ^ 8 := Nat.pow_le_pow_right (by omega) hk8
              have h88 : (128 : Nat) ^ 8 = 72057594037927936 := (by decide)
              omega
            have HF1 := hide hfk
            have Hgn := hide hgn
            clear hfk hgn h9 h9' hs hs2
            go_wp2
            go_roundw
            case rel => exact ⟨k + 1, a + s, u * 128, by omega, by omega, by omega, by go_num, by go_num, by go_num, hide (by rw [unhide Hu, Nat.pow_succ]), Hgn, hide (by have := unhide HF1; rwa [show i + (k + 1) = i + k + 1 from by omega]), trivial⟩
            case measure => simp [intOf]; omega
          · rw [if_neg hbig] at hfk
            have tb : (z : Int) < 128 := by omega
            by_cases hz : z = 0 ∧ 0 < k
            · rw [if_pos hz] at hfk
              have HF0 := hide hfk
              have t0 : ((z : Int) == 0) = true := by simp; omega
              have tk : (0 : Int) < k := by omega
              have t9 : ((k : Int) == 9) = false := by simp; omega
              clear hfk hgn h9 h9' hs hs2 hz
              go_wp2_with fail
              refine (fault_any _ p.length c i 0 3 _).mono ?_
              rintro r w1 ⟨rfl, k1⟩
              obtain ⟨⟨c0, c1, c2⟩, f0, f1, f2⟩ := three (k1.heap (heap_alloc2_new w _ _) (by simp))
              have HK1 := hide ((((Kept.refl [] w).alloc _).alloc _).trans k1 (by simp))
              clear k1
              go_wp2
              refine bodyPost_ret (v := .tuple #[.int .u64 0, rrV (.slice (some ⟨bb, oo, none⟩) p.length c) i 3]) (by simp [results, Tryz.results80, go_sem, c0, c1, c2]) rfl ⟨by rw [unhide HV, ← unhide HF0]; rfl, ?_⟩
              exact (((unhide HK1).setCell (by simp) _).setCell (by simp) _).setCell (by simp) _
            · rw [if_neg hz] at hfk
              have HF1 := hide hfk
              clear hgn hs hs2 hfk
              have T := (show (((z : Int) == 0) = true ∧ ¬ (0 : Int) < k ∧ ((k : Int) == 9) = false) ∨ (((z : Int) == 0) = false ∧ ((k : Int) == 9) = false) ∨ (((z : Int) == 0) = false ∧ ((k : Int) == 9) = true ∧ ((z : Int) != 1) = false) from by
                by_cases hz0 : z = 0
                · left; refine ⟨by simp; omega, by omega, by simp; omega⟩
                · by_cases hk' : k = 9
                  · right; right; have := h9' hk'; refine ⟨by simp; omega, by simp; omega, by simp; omega⟩
                  · right; left; exact ⟨by simp; omega, by simp; omega⟩)
              clear h9 h9' hz
              rcases T with ⟨t0, tk, t9⟩ | ⟨t0, t9⟩ | ⟨t0, t9, t1⟩
              all_goals
                go_wp2_with fail
                go_region
                all_goals go_wp2
                refine bodyPost_ret (v := .tuple #[.int .u64 ((a : Int) + s), rrV (.slice (some ⟨bb, oo, none⟩) p.length c) ((i : Int) + ((k : Int) + 1)) 0]) (by simp [results, Tryz.results80, go_sem]) rfl ⟨by rw [unhide HV, ← unhide HF1]; simp, (by repeat (first | exact Kept.refl _ _ | apply Kept.drew | apply Kept.alloc | (refine Kept.setCell ?_ (by simp) _)))⟩
      · have e0 : p.drop (i + k) = [] := List.drop_eq_nil_of_le (by omega)
        have HF0 := hide (by rw [← unhide Hf, e0, fuv] : (0, 0) = F)
        have hi2 : (p.length : Int) ≤ (i : Int) + k := by omega
        clear e0
        go_wp2_with fail
        refine (fault_any _ p.length c i 0 3 _).mono ?_
        rintro r w1 ⟨rfl, k1⟩
        obtain ⟨⟨c0, c1, c2⟩, f0, f1, f2⟩ := three (k1.heap (heap_alloc2_new w _ _) (by simp))
        have HK1 := hide ((((Kept.refl [] w).alloc _).alloc _).trans k1 (by simp))
        clear k1
        go_wp2
        refine bodyPost_ret (v := .tuple #[.int .u64 0, rrV (.slice ao p.length c) i 3]) (by simp [results, Tryz.results80, go_sem, c0, c1, c2]) rfl ⟨by rw [unhide HV, ← unhide HF0]; rfl, ?_⟩
        exact (((unhide HK1).setCell (by simp) _).setCell (by simp) _).setCell (by simp) _
  · have he' : ((e : Int) != 0) = true := by rw [bne_iff_ne]; omega
    have HV := hide (by simp [rUvar, he] : rUvar p i e = (0, i, e))
    clear he h
    go_enter Tryz.func80, Tryz.ntmps80
    go_wp2_with fail
    go_region
    all_goals go_wp2
    refine bodyPost_ret (v := .tuple #[.int .u64 0, rrV (.slice ao p.length c) i e]) (by simp [results, Tryz.results80, go_sem]) rfl ⟨by rw [unhide HV]; rfl, (by repeat (first | exact Kept.refl _ _ | apply Kept.drew | apply Kept.alloc | (refine Kept.setCell ?_ (by simp) _)))⟩
end Go.Proofs.YtckkalmhekfnhaaGreatDoor
namespace Go.Proofs.YtckkalmhekfnhaaGreatDoor
open Go.RowKit
set_option linter.unusedVariables false
set_option linter.unusedSimpArgs false
attribute [local go_sem ↓] Go.wp_at_zero Go.wp_at_succ

set_option maxRecDepth 100000 in
set_option maxHeartbeats 4000000 in
theorem takeRaw_any (ao : Option Addr) (c : Nat) (p : List Nat) (i e : Nat) (n : Int) (w : World) (h : Rd w (.slice ao p.length c) p) (hi : i ≤ p.length) (hn : -9223372036854775808 ≤ n ∧ n ≤ 9223372036854775807) :
    Calls Tryz.prog 79 #[rrV (.slice ao p.length c) i e, .int .i64 n] w fun r w' => ∃ rv, r = .returned (.tuple #[rv, rrV (.slice ao p.length c) (rRaw p i e n).2.1 (rRaw p i e n).2.2]) ∧ Rd w' rv (rRaw p i e n).1 ∧ Kept [] w w' ∧ ∀ x ∈ blk rv, w.heap.size ≤ x := by
  have hl := h.len
  by_cases he : e = 0
  · subst he
    by_cases hn0 : n < 0
    · have HV := hide (by simp [rRaw, hn0] : rRaw p i 0 n = ([], i, 1))
      clear h
      go_enter Tryz.func79, Tryz.ntmps79
      go_wp2_with fail
      refine (fault_any _ p.length c i 0 1 _).mono ?_
      rintro r w1 ⟨rfl, k1⟩
      obtain ⟨⟨c0, c1, c2⟩, f0, f1, f2⟩ := three (k1.heap (heap_alloc2_new w _ _) (by simp))
      have HK1 := hide ((((Kept.refl [] w).alloc _).alloc _).trans k1 (by simp))
      clear k1
      go_wp2
      refine bodyPost_ret (v := .tuple #[.slice none 0 0, rrV (.slice ao p.length c) i 1]) (by simp [results, Tryz.results79, go_sem, c0, c1, c2]) rfl ?_
      rw [unhide HV]
      exact ⟨_, rfl, Rd.nil _, (((unhide HK1).setCell (by simp) _).setCell (by simp) _).setCell (by simp) _, by simp [blk]⟩
    · obtain ⟨k, rfl⟩ : ∃ k : Nat, n = k := ⟨n.toNat, by omega⟩
      by_cases hs : p.length - i < k
      · have HV := hide (by have h2 : (p.length : Int) - i < k := (by omega); simp [rRaw, h2] : rRaw p i 0 k = ([], i, 3))
        have hs' : (p.length : Int) - i < k := by omega
        clear h
        go_enter Tryz.func79, Tryz.ntmps79
        go_wp2_with fail
        refine (fault_any _ p.length c i 0 3 _).mono ?_
        rintro r w1 ⟨rfl, k1⟩
        obtain ⟨⟨c0, c1, c2⟩, f0, f1, f2⟩ := three (k1.heap (heap_alloc2_new w _ _) (by simp))
        have HK1 := hide ((((Kept.refl [] w).alloc _).alloc _).trans k1 (by simp))
        clear k1
        go_wp2
        refine bodyPost_ret (v := .tuple #[.slice none 0 0, rrV (.slice ao p.length c) i 3]) (by simp [results, Tryz.results79, go_sem, c0, c1, c2]) rfl ?_
        rw [unhide HV]
        exact ⟨_, rfl, Rd.nil _, (((unhide HK1).setCell (by simp) _).setCell (by simp) _).setCell (by simp) _, by simp [blk]⟩
      · have HV := hide (by have h2 : ¬ (p.length : Int) - i < k := (by omega); simp [rRaw, h2] : rRaw p i 0 k = ((p.drop i).take k, i + k, 0))
        have hs' : ¬ (p.length : Int) - i < k := by omega
        have hik : (i : Int) + k ≤ p.length := by omega
        have hi0 : (0 : Int) ≤ i := by omega
        have hk0 : (0 : Int) ≤ k := by omega
        have HR := hide h
        have hcc : (p.length : Int) ≤ c := by obtain ⟨_, _, _, hE, _, h2, _⟩ := h; cases hE; omega
        have hc2 : (c : Int) ≤ 9223372036854775807 := by obtain ⟨_, _, _, hE, _, _, ⟨h3, _⟩, _⟩ := h; cases hE; omega
        clear h
        go_enter Tryz.func79, Tryz.ntmps79
        go_wp2_with fail
        all_goals
          have hl2 : ((p.drop i).take k).length = k := by simp; omega
          have hby : ∀ y ∈ (p.drop i).take k, y < 256 := fun y hy => (unhide HR).byte y (List.mem_of_mem_drop (List.mem_of_mem_take hy))
          refine (twin_any _ ((p.drop i).take k) _ (by first | exact ((unhide HR).sub0 (by assumption) (by omega)).old (((Kept.refl [] w).alloc _).alloc _) (by simp) | exact ((unhide HR).sub (by omega)).old (((Kept.refl [] w).alloc _).alloc _) (by simp))).mono ?_
          rintro r w1 ⟨rfl, k1, h1⟩
          have hfr := rd_fresh h1 hby (by omega)
          rw [hl2] at hfr ⊢
          have HRf := hide hfr
          obtain ⟨⟨b0, b1, b2⟩, g0, g1, g2⟩ := three (k1.heap (heap_alloc2_old w _ _) (by simp))
          obtain ⟨⟨c0, c1, c2⟩, f0, f1, f2⟩ := three (k1.heap (heap_alloc2_new w _ _) (by simp))
          have hlt1 := lt_of_block h1
          have HK1 := hide ((((Kept.refl [] w).alloc _).alloc _).trans k1 (by simp))
          have hsz1 : w.heap.size + 2 < w1.heap.size := by simp at hlt1; omega
          clear k1 h1 hfr hlt1
          go_wp2_with fail
          go_region
          all_goals go_wp2
          refine bodyPost_ret (v := .tuple #[.slice (some ⟨w.heap.size + 1 + 1, 0, none⟩) k k, rrV (.slice ao p.length c) ((i : Int) + k) 0]) (by simp [results, Tryz.results79, go_sem, b0, b1, b2, c0, c1, c2] <;> omega) rfl ?_
          rw [unhide HV]
          refine ⟨.slice (some ⟨w.heap.size + 1 + 1, 0, none⟩) k k, by simp, ?_, ?_, by simp [blk]; omega⟩
          · have h7 := unhide HRf
            have h7' : Rd w1 (.slice (some ⟨w.heap.size + 1 + 1, 0, none⟩) k k) ((p.drop i).take k) := by simpa using h7
            exact h7'.kept (L := [w.heap.size, w.heap.size + 1]) (by repeat (first | exact Kept.refl _ _ | apply Kept.drew | apply Kept.alloc | (refine Kept.setCell ?_ (by simp) _))) (by simp [blk]; omega)
          · exact (unhide HK1).trans (M := [w.heap.size, w.heap.size + 1]) (by repeat (first | exact Kept.refl _ _ | apply Kept.drew | apply Kept.alloc | (refine Kept.setCell ?_ (by simp) _))) (by simp)
  · have he' : ((e : Int) != 0) = true := by rw [bne_iff_ne]; omega
    have HV := hide (by simp [rRaw, he] : rRaw p i e n = ([], i, e))
    clear he h
    go_enter Tryz.func79, Tryz.ntmps79
    go_wp2_with fail
    go_region
    all_goals go_wp2
    refine bodyPost_ret (v := .tuple #[.slice none 0 0, rrV (.slice ao p.length c) i e]) (by simp [results, Tryz.results79, go_sem]) rfl ?_
    rw [unhide HV]
    exact ⟨_, rfl, Rd.nil _, (by repeat (first | exact Kept.refl _ _ | apply Kept.drew | apply Kept.alloc | (refine Kept.setCell ?_ (by simp) _))), by simp [blk]⟩
end Go.Proofs.YtckkalmhekfnhaaGreatDoor
namespace Go.Proofs.YtckkalmhekfnhaaGreatDoor
open Go.RowKit Go.BigFrame
set_option linter.unusedVariables false
set_option linter.unusedSimpArgs false

theorem Tryz.size_refframe : (Tryz.prog.info? 91).map (·.size) = some 2 := by kernel_rfl
theorem put3_heap {w : World} {g : Nat} {a b c : Value} {t : TypeId} (h : w.heap[g]? = some (.cells #[a, b, c] t (0, 0))) (x y z : Value) : (((w.setCell ⟨g, 0, none⟩ x).setCell ⟨g, 1, none⟩ y).setCell ⟨g, 2, none⟩ z).heap[g]? = some (.cells #[x, y, z] t (0, 0)) := by
  rw [heap_setCell_same _ g 2 _ t _ (heap_setCell_same _ g 1 _ t _ (heap_setCell_same w g 0 _ t _ h))]; rfl
theorem put3_kept {w0 w : World} (k : Kept [] w0 w) (g : Nat) (hg : w0.heap.size ≤ g) (x y z : Value) : Kept [] w0 (((w.setCell ⟨g, 0, none⟩ x).setCell ⟨g, 1, none⟩ y).setCell ⟨g, 2, none⟩ z) := ((k.setCell (Or.inr hg) x).setCell (Or.inr hg) y).setCell (Or.inr hg) z
theorem put3_other (w : World) (g b : Nat) (hb : b ≠ g) (x y z : Value) : (((w.setCell ⟨g, 0, none⟩ x).setCell ⟨g, 1, none⟩ y).setCell ⟨g, 2, none⟩ z).heap[b]? = w.heap[b]? := by
  rw [heap_setCell_other _ ⟨g, 2, none⟩ b z (by simpa using hb), heap_setCell_other _ ⟨g, 1, none⟩ b y (by simpa using hb), heap_setCell_other _ ⟨g, 0, none⟩ b x (by simpa using hb)]
theorem rNum_le {p : List Nat} {i e n : Nat} (h : i ≤ p.length) : (rNum p i e n).2.1 ≤ p.length := by
  unfold rNum
  split
  · exact h
  · split
    · exact h
    · simp only; omega

theorem rNum_ok {p : List Nat} {i e n X j : Nat} (h : rNum p i e n = (X, j, 0)) : e = 0 ∧ n ≤ p.length - i ∧ X = beL ((p.drop i).take n) ∧ j = i + n := by
  unfold rNum at h
  split at h
  · simp only [Prod.mk.injEq] at h; omega
  · split at h
    · simp only [Prod.mk.injEq] at h; omega
    · simp only [Prod.mk.injEq] at h; exact ⟨by omega, by omega, h.1.symm, h.2.1.symm⟩
theorem rNum_bad {p : List Nat} {i e n X j f : Nat} (h : rNum p i e n = (X, j, f)) (hf : f ≠ 0) : e ≠ 0 ∨ p.length - i < n := by
  unfold rNum at h
  split at h
  · exact Or.inl (by assumption)
  · split at h
    · exact Or.inr (by assumption)
    · simp only [Prod.mk.injEq] at h; omega
theorem chain4 {p : List Nat} {n X1 i1 f1 X2 i2 f2 X3 i3 f3 X4 i4 f4 : Nat} (hn : n < p.length) (h1 : rNum p n 0 1 = (X1, i1, f1)) (h2 : rNum p i1 f1 4 = (X2, i2, f2)) (h3 : rNum p i2 f2 8 = (X3, i3, f3)) (h4 : rNum p i3 f3 4 = (X4, i4, f4)) :
    (f4 = 0 → n + 17 ≤ p.length ∧ X2 = beL (((p.drop n).drop 1).take 4) ∧ X3 = beL (((p.drop n).drop 5).take 8) ∧ i4 = n + 17) ∧ (f4 ≠ 0 → p.length < n + 17) := by
  have hf1 : f1 = 0 := by
    rcases Nat.eq_zero_or_pos f1 with h | h
    · exact h
    · rcases rNum_bad h1 (by omega) with h | h <;> omega
  subst hf1
  obtain ⟨_, _, _, rfl⟩ := rNum_ok h1
  constructor
  · intro e
    subst e
    obtain ⟨rfl, a4, _, rfl⟩ := rNum_ok h4
    obtain ⟨rfl, a3, b3, rfl⟩ := rNum_ok h3
    obtain ⟨_, a2, b2, rfl⟩ := rNum_ok h2
    refine ⟨by omega, by rw [List.drop_drop]; exact b2, by rw [List.drop_drop]; rw [b3], by omega⟩
  · intro e
    rcases rNum_bad h4 e with h | h
    · rcases rNum_bad h3 h with h | h
      · rcases rNum_bad h2 h with h | h
        · omega
        · omega
      · by_cases e2 : f2 = 0
        · subst e2; obtain ⟨_, a2, b2, rfl⟩ := rNum_ok h2; omega
        · rcases rNum_bad h2 e2 with h | h <;> omega
    · by_cases e3 : f3 = 0
      · subst e3
        obtain ⟨rfl, a3, b3, rfl⟩ := rNum_ok h3
        obtain ⟨_, a2, b2, rfl⟩ := rNum_ok h2
        omega
      · rcases rNum_bad h3 e3 with h | h
        · rcases rNum_bad h2 h with h | h <;> omega
        · by_cases e2 : f2 = 0
          · subst e2; obtain ⟨_, a2, b2, rfl⟩ := rNum_ok h2; omega
          · rcases rNum_bad h2 e2 with h | h <;> omega

theorem put3_kept1 (w : World) (g : Nat) (x y z : Value) : Kept [g] w (((w.setCell ⟨g, 0, none⟩ x).setCell ⟨g, 1, none⟩ y).setCell ⟨g, 2, none⟩ z) := (((Kept.refl [g] w).setCell (Or.inl (by simp)) x).setCell (Or.inl (by simp)) y).setCell (Or.inl (by simp)) z
theorem rRaw_le {p : List Nat} {i e : Nat} {n : Int} (h : i ≤ p.length) : (rRaw p i e n).2.1 ≤ p.length := by
  unfold rRaw
  split
  · exact h
  · split
    · exact h
    · split
      · exact h
      · simp only; omega
theorem chain6 {p : List Nat} {n X2 i4 f4 i5 f5 X6 i6 f6 : Nat} {pay : List Nat} (hf : f4 = 0) (hi : i4 = n + 17) (h5 : rRaw p i4 f4 X2 = (pay, i5, f5)) (h6 : rNum p i5 f5 1 = (X6, i6, f6)) :
    (f6 = 0 → n + 18 + X2 ≤ p.length ∧ pay = (p.drop (n + 17)).take X2 ∧ i6 = n + 18 + X2) ∧ (f6 ≠ 0 → p.length < n + 18 + X2) := by
  subst hf
  subst hi
  unfold rRaw at h5
  rw [if_neg (by simp), if_neg (by omega)] at h5
  split at h5
  · rename_i hlt
    simp only [Prod.mk.injEq] at h5
    obtain ⟨rfl, rfl, rfl⟩ := h5
    exact ⟨fun e => by subst e; have := (rNum_ok h6).1; omega, fun _ => by omega⟩
  · rename_i hlt
    simp only [Prod.mk.injEq, Int.toNat_natCast] at h5
    obtain ⟨rfl, rfl, rfl⟩ := h5
    refine ⟨fun e => ?_, fun e => ?_⟩
    · subst e
      obtain ⟨_, a, _, b⟩ := rNum_ok h6
      exact ⟨by omega, rfl, by omega⟩
    · rcases rNum_bad h6 e with h | h <;> omega

theorem docNone {p : List Nat} {n X2 X3 i4 i6 : Nat} {pay : List Nat} (g : n + 17 ≤ p.length ∧ X2 = beL (((p.drop n).drop 1).take 4) ∧ X3 = beL (((p.drop n).drop 5).take 8) ∧ i4 = n + 17) (gi : n + 18 + X2 ≤ p.length ∧ pay = (p.drop (n + 17)).take X2 ∧ i6 = n + 18 + X2)
    (h1 : 1 ≤ X2) (h2 : X2 ≤ 65535) (hb : ∀ x ∈ p, x < 256) (hd : ¬ frB X3 pay = (p.drop n).take (i6 - n)) : firstF (p.drop n) = none := by
  cases hf : firstF (p.drop n) with
  | none => rfl
  | some x =>
    exfalso
    obtain ⟨pl', pay'⟩ := x
    obtain ⟨a1, a2, a3, a4, a5⟩ := firstF_form hf (fun x hx => hb x (List.mem_of_mem_drop hx))
    obtain ⟨p1, p2, p3, p4, p5⟩ := frB_parts pl' pay' ((p.drop n).drop (pay'.length + 18)) a1 a3 a4
    rw [← a5] at p1 p2 p4
    have e1 : X2 = pay'.length := by rw [g.2.1, p1, beL_of_wide (by omega) (by omega)]
    have e2 : X3 = pl' := by rw [g.2.2.1, p2, beL_of_wide (by omega) (by omega)]
    have e3 : pay = pay' := by rw [gi.2.1, e1]; rw [List.drop_drop] at p4; exact p4
    apply hd
    rw [e2, e3, gi.2.2, e1]
    conv => rhs; rw [a5]
    rw [show n + 18 + pay'.length - n = (frB pl' pay').length by rw [frB_len]; omega, List.take_left]

set_option maxRecDepth 100000 in
set_option maxHeartbeats 2000000 in
theorem docNext_any (v : Value) (p : List Nat) (z : Int) (w : World) (h : Rd w v p) (hz : -9223372036854775808 ≤ z ∧ z ≤ 9223372036854775807) :
    Calls Tryz.prog 44 #[v, .int .i64 z] w fun e w' => ∃ v', e = .returned (.tuple #[.agg #[.int .u64 (nextF p z).pl, v'], .int .i64 (nextF p z).next, .int .i64 (nextF p z).kind]) ∧ NewP w w' v' (nextF p z).pay ∧ Kept [] w w' := by
  have H := hide h
  obtain ⟨a1, n1, c1, rfl, hn1, hc1, ⟨hc2, hc3⟩, _, _, hcell⟩ := id h
  subst hn1
  clear h
  have HZ0 := hide (heap_alloc_new w (.cells #[.int .u64 0, .slice none 0 0] 91))
  have HK0 := hide ((Kept.refl [] w).alloc (.cells #[.int .u64 0, .slice none 0 0] 91))
  by_cases h1 : z = p.length
  · have hN : nextF p z = ⟨0, [], z, 0⟩ := by unfold nextF; rw [if_pos h1]
    rw [hN]
    clear hN hcell
    subst h1
    go_enter Tryz.func44, Tryz.ntmps44
    go_wp2
    refine bodyPost_ret (v := .tuple #[.agg #[.int .u64 0, .slice none 0 0], .int .i64 p.length, .int .i64 0]) ?_ rfl ⟨_, rfl, NewP.nil _ _, unhide HK0⟩
    exact results_cell_tmp2 rfl _ _ w.heap.size _ #[.int .u64 0, .slice none 0 0] (0, 0) _ rfl (unhide HZ0) Tryz.underlying91 rfl Tryz.size_refframe _ _ rfl rfl
  have h1' : (z == (p.length : Int)) = false := by rw [beq_eq_false_iff_ne]; exact h1
  by_cases h2 : z < 0
  · have hN : nextF p z = ⟨0, [], z, 2⟩ := by unfold nextF; rw [if_neg h1, if_pos (Or.inl h2)]
    rw [hN]
    clear hN hcell
    go_enter Tryz.func44, Tryz.ntmps44
    go_wp2
    refine bodyPost_ret (v := .tuple #[.agg #[.int .u64 0, .slice none 0 0], .int .i64 z, .int .i64 2]) ?_ rfl ⟨_, rfl, NewP.nil _ _, unhide HK0⟩
    exact results_cell_tmp2 rfl _ _ w.heap.size _ #[.int .u64 0, .slice none 0 0] (0, 0) _ rfl (unhide HZ0) Tryz.underlying91 rfl Tryz.size_refframe _ _ rfl rfl
  by_cases h3 : (p.length : Int) < z
  · have hN : nextF p z = ⟨0, [], z, 2⟩ := by unfold nextF; rw [if_neg h1, if_pos (Or.inr h3)]
    rw [hN]
    clear hN hcell
    go_enter Tryz.func44, Tryz.ntmps44
    go_wp2
    refine bodyPost_ret (v := .tuple #[.agg #[.int .u64 0, .slice none 0 0], .int .i64 z, .int .i64 2]) ?_ rfl ⟨_, rfl, NewP.nil _ _, unhide HK0⟩
    exact results_cell_tmp2 rfl _ _ w.heap.size _ #[.int .u64 0, .slice none 0 0] (0, 0) _ rfl (unhide HZ0) Tryz.underlying91 rfl Tryz.size_refframe _ _ rfl rfl
  obtain ⟨n, rfl⟩ : ∃ n : Nat, z = n := ⟨z.toNat, by omega⟩
  have hn : n < p.length := by omega
  obtain ⟨bb, off, rfl, hcl⟩ := hcell (by omega)
  clear hcell hcl
  have h3' : ¬ (p.length : Int) < n := by omega
  have HNN := hide (rfl : nextF p n = nextF p n)
  obtain ⟨NR, hNR⟩ : ∃ R, nextF p n = R := ⟨_, rfl⟩
  rw [hNR]
  have HNR := hide hNR
  clear hNR HNN
  go_enter Tryz.func44, Tryz.ntmps44
  go_wp2_with fail
  have HG0 := hide (heap_alloc2_old w (.cells #[.int .u64 0, .slice none 0 0] 91) (.cells #[.slice (some ⟨bb, off, none⟩) p.length c1, .int .i64 (n : Int), .int .i64 0] 139))
  have HR0 := hide (heap_alloc2_new w (.cells #[.int .u64 0, .slice none 0 0] 91) (.cells #[.slice (some ⟨bb, off, none⟩) p.length c1, .int .i64 (n : Int), .int .i64 0] 139))
  have HKK := hide ((unhide HK0).alloc (.cells #[.slice (some ⟨bb, off, none⟩) p.length c1, .int .i64 (n : Int), .int .i64 0] 139))
  refine Calls.mono (takeWide_any _ c1 p n 0 1 _ ((unhide H).old (unhide HKK) (by simp)) (by omega) (by decide)) ?_
  rintro e1 w1 ⟨rfl, k1⟩
  obtain ⟨X1, i1, f1, hx1⟩ : ∃ X i f, rNum p n 0 1 = (X, i, f) := ⟨_, _, _, rfl⟩
  have hl1 : i1 ≤ p.length := by have := rNum_le (p := p) (i := n) (e := 0) (n := 1) (by omega); rw [hx1] at this; exact this
  rw [hx1]
  have HX1 := hide hx1
  have HR1 := hide (k1.heap (unhide HR0) (by simp))
  have HG1 := hide (k1.heap (unhide HG0) (by simp))
  have HK1 := hide ((unhide HKK).trans k1 (by simp))
  clear k1 hx1
  obtain ⟨⟨s0, s1, s2⟩, t0, t1, t2⟩ := three (unhide HR1)
  have HP1 := hide (put3_heap (unhide HR1) (.slice (some ⟨bb, off, none⟩) p.length c1) (.int .i64 i1) (.int .i64 f1))
  have HQ1 := hide (put3_kept (unhide HK1) (w.heap.size + 1) (by omega) (.slice (some ⟨bb, off, none⟩) p.length c1) (.int .i64 i1) (.int .i64 f1))
  have HG1' := hide ((put3_other w1 (w.heap.size + 1) w.heap.size (by omega) (.slice (some ⟨bb, off, none⟩) p.length c1) (.int .i64 i1) (.int .i64 f1)).trans (unhide HG1))
  simp only
  go_wp2_with fail
  clear s0 s1 s2 t0 t1 t2
  refine Calls.mono (takeWide_any _ c1 p i1 f1 4 _ ((unhide H).old (unhide HQ1) (by simp)) hl1 (by decide)) ?_
  rintro e2 w2 ⟨rfl, k2⟩
  obtain ⟨X2, i2, f2, hx2⟩ : ∃ X i f, rNum p i1 f1 4 = (X, i, f) := ⟨_, _, _, rfl⟩
  have hl2 : i2 ≤ p.length := by have := rNum_le (p := p) (i := i1) (e := f1) (n := 4) hl1; rw [hx2] at this; exact this
  rw [hx2]
  have HX2 := hide hx2
  have HR2 := hide (k2.heap (unhide HP1) (by simp))
  have HG2 := hide (k2.heap (unhide HG1') (by simp))
  have HK2 := hide ((unhide HQ1).trans k2 (by simp))
  clear k2 hx2
  obtain ⟨⟨s0, s1, s2⟩, t0, t1, t2⟩ := three (unhide HR2)
  have HP2 := hide (put3_heap (unhide HR2) (.slice (some ⟨bb, off, none⟩) p.length c1) (.int .i64 i2) (.int .i64 f2))
  have HQ2 := hide (put3_kept (unhide HK2) (w.heap.size + 1) (by omega) (.slice (some ⟨bb, off, none⟩) p.length c1) (.int .i64 i2) (.int .i64 f2))
  have HG2' := hide ((put3_other w2 (w.heap.size + 1) w.heap.size (by omega) (.slice (some ⟨bb, off, none⟩) p.length c1) (.int .i64 i2) (.int .i64 f2)).trans (unhide HG2))
  simp only
  go_wp2_with fail
  clear s0 s1 s2 t0 t1 t2
  refine Calls.mono (takeWide_any _ c1 p i2 f2 8 _ ((unhide H).old (unhide HQ2) (by simp)) hl2 (by decide)) ?_
  rintro e3 w3 ⟨rfl, k3⟩
  obtain ⟨X3, i3, f3, hx3⟩ : ∃ X i f, rNum p i2 f2 8 = (X, i, f) := ⟨_, _, _, rfl⟩
  have hl3 : i3 ≤ p.length := by have := rNum_le (p := p) (i := i2) (e := f2) (n := 8) hl2; rw [hx3] at this; exact this
  rw [hx3]
  have HX3 := hide hx3
  have HR3 := hide (k3.heap (unhide HP2) (by simp))
  have HG3 := hide (k3.heap (unhide HG2') (by simp))
  have HK3 := hide ((unhide HQ2).trans k3 (by simp))
  clear k3 hx3
  obtain ⟨⟨s0, s1, s2⟩, t0, t1, t2⟩ := three (unhide HR3)
  have HP3 := hide (put3_heap (unhide HR3) (.slice (some ⟨bb, off, none⟩) p.length c1) (.int .i64 i3) (.int .i64 f3))
  have HQ3 := hide (put3_kept (unhide HK3) (w.heap.size + 1) (by omega) (.slice (some ⟨bb, off, none⟩) p.length c1) (.int .i64 i3) (.int .i64 f3))
  have HG3' := hide ((put3_other w3 (w.heap.size + 1) w.heap.size (by omega) (.slice (some ⟨bb, off, none⟩) p.length c1) (.int .i64 i3) (.int .i64 f3)).trans (unhide HG3))
  simp only
  go_wp2_with fail
  clear s0 s1 s2 t0 t1 t2
  refine Calls.mono (takeWide_any _ c1 p i3 f3 4 _ ((unhide H).old (unhide HQ3) (by simp)) hl3 (by decide)) ?_
  rintro e4 w4 ⟨rfl, k4⟩
  obtain ⟨X4, i4, f4, hx4⟩ : ∃ X i f, rNum p i3 f3 4 = (X, i, f) := ⟨_, _, _, rfl⟩
  have hl4 : i4 ≤ p.length := by have := rNum_le (p := p) (i := i3) (e := f3) (n := 4) hl3; rw [hx4] at this; exact this
  rw [hx4]
  have HX4 := hide hx4
  have HR4 := hide (k4.heap (unhide HP3) (by simp))
  have HG4 := hide (k4.heap (unhide HG3') (by simp))
  have HK4 := hide ((unhide HQ3).trans k4 (by simp))
  clear k4 hx4
  obtain ⟨⟨s0, s1, s2⟩, t0, t1, t2⟩ := three (unhide HR4)
  have HP4 := hide (put3_heap (unhide HR4) (.slice (some ⟨bb, off, none⟩) p.length c1) (.int .i64 i4) (.int .i64 f4))
  have HQ4 := hide (put3_kept (unhide HK4) (w.heap.size + 1) (by omega) (.slice (some ⟨bb, off, none⟩) p.length c1) (.int .i64 i4) (.int .i64 f4))
  have HG4' := hide ((put3_other w4 (w.heap.size + 1) w.heap.size (by omega) (.slice (some ⟨bb, off, none⟩) p.length c1) (.int .i64 i4) (.int .i64 f4)).trans (unhide HG4))
  simp only
  have HCH := hide (chain4 hn (unhide HX1) (unhide HX2) (unhide HX3) (unhide HX4))
  have HBD := hide (fun (h : firstF (p.drop n) = none) => by unfold nextF; rw [if_neg h1, if_neg (by omega), Int.toNat_natCast, h] : firstF (p.drop n) = none → nextF p n = ⟨0, [], n, 2⟩)
  have d0 : (((w4.setCell ⟨w.heap.size + 1, 0, none⟩ (.slice (some ⟨bb, off, none⟩) p.length c1)).setCell ⟨w.heap.size + 1, 1, none⟩ (.int .i64 (i4 : Int))).setCell ⟨w.heap.size + 1, 2, none⟩ (.int .i64 (f4 : Int))).cell? ⟨w.heap.size, 0, none⟩ = some (.int .u64 0) := by rw [cell_of_row _ _ _ _ _ _ (unhide HG4')]; rfl
  have d1 : (((w4.setCell ⟨w.heap.size + 1, 0, none⟩ (.slice (some ⟨bb, off, none⟩) p.length c1)).setCell ⟨w.heap.size + 1, 1, none⟩ (.int .i64 (i4 : Int))).setCell ⟨w.heap.size + 1, 2, none⟩ (.int .i64 (f4 : Int))).cell? ⟨w.heap.size, 1, none⟩ = some (.slice none 0 0) := by rw [cell_of_row _ _ _ _ _ _ (unhide HG4')]; rfl
  have u0 : (((w4.setCell ⟨w.heap.size + 1, 0, none⟩ (.slice (some ⟨bb, off, none⟩) p.length c1)).setCell ⟨w.heap.size + 1, 1, none⟩ (.int .i64 (i4 : Int))).setCell ⟨w.heap.size + 1, 2, none⟩ (.int .i64 (f4 : Int))).frozen? ⟨w.heap.size, 0, none⟩ = false := frozen_of_row _ _ _ _ _ (unhide HG4')
  have u1 : (((w4.setCell ⟨w.heap.size + 1, 0, none⟩ (.slice (some ⟨bb, off, none⟩) p.length c1)).setCell ⟨w.heap.size + 1, 1, none⟩ (.int .i64 (i4 : Int))).setCell ⟨w.heap.size + 1, 2, none⟩ (.int .i64 (f4 : Int))).frozen? ⟨w.heap.size, 1, none⟩ = false := frozen_of_row _ _ _ _ _ (unhide HG4')
  by_cases hf4 : f4 = 0
  · have hf4' : ((f4 : Int) != 0) = false := by rw [hf4]; rfl
    have HGG := hide ((unhide HCH).1 hf4)
    have HF4 := hide hf4
    clear hf4
    have hi4 : i4 = n + 17 := (unhide HGG).2.2.2
    have hx2 : X2 < 4294967296 := by rw [(unhide HGG).2.1]; exact Tryz.lt_of_beL (fun x hx => (unhide H).byte x (List.mem_of_mem_drop hx)) 1 4 (by decide)
    have hx3 : X3 < 18446744073709551616 := by rw [(unhide HGG).2.2.1]; exact Tryz.lt_of_beL (fun x hx => (unhide H).byte x (List.mem_of_mem_drop hx)) 5 8 (by decide)
    have HI4 := hide hi4
    clear hi4
    by_cases hz2 : X2 = 0
    · have HN := hide ((unhide HNR).symm.trans (unhide HBD (by unfold firstF; rw [← (unhide HGG).2.1, if_neg]; rintro ⟨_, h, _⟩; omega)))
      have hz2' : ((X2 : Int) == 0) = true := by rw [hz2]; rfl
      clear hz2
      go_wp2
      refine bodyPost_ret (v := .tuple #[.agg #[.int .u64 0, .slice none 0 0], .int .i64 n, .int .i64 2]) ?_ rfl ⟨_, by rw [unhide HN]; rfl, by rw [unhide HN]; exact NewP.nil _ _, put2_kept (unhide HQ4) w.heap.size (Nat.le_refl _) (.int .u64 0) (.slice none 0 0)⟩
      exact results_cell_tmp2 rfl _ _ w.heap.size _ #[.int .u64 0, .slice none 0 0] (0, 0) _ rfl (put2_heap (unhide HG4') (.int .u64 0) (.slice none 0 0)) Tryz.underlying91 rfl Tryz.size_refframe _ _ rfl rfl

    have hz2' : ((X2 : Int) == 0) = false := by rw [beq_eq_false_iff_ne]; omega
    by_cases hm2 : 65535 < X2
    · have HN := hide ((unhide HNR).symm.trans (unhide HBD (by unfold firstF; rw [← (unhide HGG).2.1, if_neg]; rintro ⟨_, _, h, _⟩; omega)))
      have hm2' : (65535 : Int) < X2 := by omega
      go_wp2
      refine bodyPost_ret (v := .tuple #[.agg #[.int .u64 0, .slice none 0 0], .int .i64 n, .int .i64 2]) ?_ rfl ⟨_, by rw [unhide HN]; rfl, by rw [unhide HN]; exact NewP.nil _ _, put2_kept (unhide HQ4) w.heap.size (Nat.le_refl _) (.int .u64 0) (.slice none 0 0)⟩
      exact results_cell_tmp2 rfl _ _ w.heap.size _ #[.int .u64 0, .slice none 0 0] (0, 0) _ rfl (put2_heap (unhide HG4') (.int .u64 0) (.slice none 0 0)) Tryz.underlying91 rfl Tryz.size_refframe _ _ rfl rfl

    have hm2' : ¬ (65535 : Int) < X2 := by omega
    clear d0 d1 u0 u1
    go_wp2_with fail
    clear s0 s1 s2 t0 t1 t2
    refine Calls.mono (takeRaw_any _ c1 p i4 f4 X2 _ ((unhide H).old (unhide HQ4) (by simp)) hl4 (by omega)) ?_
    rintro e5 w5 ⟨rv, rfl, r5, k5, b5⟩
    obtain ⟨pay5, i5, f5, hx5⟩ : ∃ X i f, rRaw p i4 f4 X2 = (X, i, f) := ⟨_, _, _, rfl⟩
    have hl5 : i5 ≤ p.length := by have := rRaw_le (p := p) (i := i4) (e := f4) (n := X2) hl4; rw [hx5] at this; exact this
    rw [hx5] at r5 ⊢
    simp only at r5
    have HX5 := hide hx5
    have HB5 := hide r5
    have HBL := hide (fun x hx => by have h9 := b5 x hx; have h8 := lt_of_block (unhide HP4); omega : ∀ x ∈ blk rv, w.heap.size + 1 < x)
    have HR5 := hide (k5.heap (unhide HP4) (by simp))
    have HG5 := hide (k5.heap (unhide HG4') (by simp))
    have HK5 := hide ((unhide HQ4).trans k5 (by simp))
    obtain ⟨ar, nr, cr, hrv, hnr, _⟩ := id r5
    subst hrv
    clear k5 hx5 r5 b5
    obtain ⟨⟨s0, s1, s2⟩, t0, t1, t2⟩ := three (unhide HR5)
    have HP5 := hide (put3_heap (unhide HR5) (.slice (some ⟨bb, off, none⟩) p.length c1) (.int .i64 i5) (.int .i64 f5))
    have HQ5 := hide (put3_kept (unhide HK5) (w.heap.size + 1) (by omega) (.slice (some ⟨bb, off, none⟩) p.length c1) (.int .i64 i5) (.int .i64 f5))
    have HG5' := hide ((put3_other w5 (w.heap.size + 1) w.heap.size (by omega) (.slice (some ⟨bb, off, none⟩) p.length c1) (.int .i64 i5) (.int .i64 f5)).trans (unhide HG5))
    have HB5' := hide ((unhide HB5).kept (put3_kept1 w5 (w.heap.size + 1) (.slice (some ⟨bb, off, none⟩) p.length c1) (.int .i64 i5) (.int .i64 f5)) (by intro x hx hm; have h9 := unhide HBL x hx; rw [List.mem_singleton] at hm; omega))
    simp only
    go_wp2_with fail
    clear s0 s1 s2 t0 t1 t2
    refine Calls.mono (takeWide_any _ c1 p i5 f5 1 _ ((unhide H).old (unhide HQ5) (by simp)) hl5 (by decide)) ?_
    rintro e6 w6 ⟨rfl, k6⟩
    obtain ⟨X6, i6, f6, hx6⟩ : ∃ X i f, rNum p i5 f5 1 = (X, i, f) := ⟨_, _, _, rfl⟩
    have hl6 : i6 ≤ p.length := by have := rNum_le (p := p) (i := i5) (e := f5) (n := 1) hl5; rw [hx6] at this; exact this
    rw [hx6]
    have HX6 := hide hx6
    have HR6 := hide (k6.heap (unhide HP5) (by simp))
    have HG6 := hide (k6.heap (unhide HG5') (by simp))
    have HK6 := hide ((unhide HQ5).trans k6 (by simp))
    have HB6 := hide ((unhide HB5').old k6 (by simp))
    clear k6 hx6
    obtain ⟨⟨s0, s1, s2⟩, t0, t1, t2⟩ := three (unhide HR6)
    have HP6 := hide (put3_heap (unhide HR6) (.slice (some ⟨bb, off, none⟩) p.length c1) (.int .i64 i6) (.int .i64 f6))
    have HQ6 := hide (put3_kept (unhide HK6) (w.heap.size + 1) (by omega) (.slice (some ⟨bb, off, none⟩) p.length c1) (.int .i64 i6) (.int .i64 f6))
    have HG6' := hide ((put3_other w6 (w.heap.size + 1) w.heap.size (by omega) (.slice (some ⟨bb, off, none⟩) p.length c1) (.int .i64 i6) (.int .i64 f6)).trans (unhide HG6))
    have HB6' := hide ((unhide HB6).kept (put3_kept1 w6 (w.heap.size + 1) (.slice (some ⟨bb, off, none⟩) p.length c1) (.int .i64 i6) (.int .i64 f6)) (by intro x hx hm; have h9 := unhide HBL x hx; rw [List.mem_singleton] at hm; omega))
    simp only
    have HCI := hide (chain6 (unhide HF4) (unhide HI4) (unhide HX5) (unhide HX6))
    go_wp2_with fail
    clear s0 s1 s2 t0 t1 t2
    obtain ⟨W6, hW6⟩ : ∃ W, ((w6.setCell ⟨w.heap.size + 1, 0, none⟩ (.slice (some ⟨bb, off, none⟩) p.length c1)).setCell ⟨w.heap.size + 1, 1, none⟩ (.int .i64 (i6 : Int))).setCell ⟨w.heap.size + 1, 2, none⟩ (.int .i64 (f6 : Int)) = W := ⟨_, rfl⟩
    rw [hW6] at HP6 HQ6 HG6' HB6' ⊢
    clear hW6
    have e0 : W6.cell? ⟨w.heap.size, 0, none⟩ = some (.int .u64 0) := by rw [cell_of_row _ _ _ _ _ _ (unhide HG6')]; rfl
    have e1 : W6.cell? ⟨w.heap.size, 1, none⟩ = some (.slice none 0 0) := by rw [cell_of_row _ _ _ _ _ _ (unhide HG6')]; rfl
    have v0 : W6.frozen? ⟨w.heap.size, 0, none⟩ = false := frozen_of_row _ _ _ _ _ (unhide HG6')
    have v1 : W6.frozen? ⟨w.heap.size, 1, none⟩ = false := frozen_of_row _ _ _ _ _ (unhide HG6')
    have r1 : W6.cell? ⟨w.heap.size + 1, 1, none⟩ = some (.int .i64 i6) := by rw [cell_of_row _ _ _ _ _ _ (unhide HP6)]; rfl
    have r2 : W6.cell? ⟨w.heap.size + 1, 2, none⟩ = some (.int .i64 f6) := by rw [cell_of_row _ _ _ _ _ _ (unhide HP6)]; rfl
    by_cases hf6 : f6 = 0
    · have hf6' : ((f6 : Int) != 0) = false := by rw [hf6]; rfl
      have HGI := hide ((unhide HCI).1 hf6)
      have HF6 := hide hf6
      clear hf6
      have hni : (n : Int) ≤ i6 := by have := (unhide HGI).2.2; omega
      have hip : (i6 : Int) ≤ p.length := by omega
      have hic : (i6 : Int) ≤ c1 := by omega
      have hpl5 : pay5.length = X2 := by rw [(unhide HGI).2.1, List.length_take, List.length_drop]; have := (unhide HGI).1; omega
      have HPL := hide hpl5
      clear hpl5
      have HLB := hide (unhide HB6').byte
      have HKd := hide (unhide HQ6).drew
      have HCUT := hide (fun W (k : Kept [] w W) => ((unhide H).cutN n i6 (by omega) (by omega)).old k (by simp))
      obtain ⟨D, hD⟩ : ∃ D, decide (frB X3 pay5 = (p.drop n).take (i6 - n)) = D := ⟨_, rfl⟩
      have HD := hide hD
      clear hD
      go_region_held3 (fun w' => w'.cell? ⟨w.heap.size + 1, 1, none⟩ = some (.int .i64 i6) ∧ w'.cell? ⟨w.heap.size + 1, 2, none⟩ = some (.int .i64 f6)) (go_keep) (first
        | (go_at_call 41; refine (refLaid_any X3 _ pay5 _ (by exact unhide HB6') hx3 (by have := unhide HPL; omega)).mono ?_; rintro e w7 ⟨v7, rfl, r7, k7, _⟩; have j1 := k7.cell (show W6.drew.cell? _ = _ from r1) (by simp); have j2 := k7.cell (show W6.drew.cell? _ = _ from r2) (by simp); have HR7 := hide r7; have HK7 := hide ((unhide HKd).trans k7 (by simp)); have HG7 := hide (k7.heap (show W6.drew.heap[w.heap.size]? = _ from unhide HG6') (by simp)); have HP7 := hide (k7.heap (show W6.drew.heap[w.heap.size + 1]? = _ from unhide HP6) (by simp)); have HB7 := hide ((unhide HB6').old (show Kept [] W6 w7 from ⟨k7.os, k7.tape, k7.output, k7.size, k7.block⟩) (by simp)); clear r7 k7)
        | (go_at_call 20; refine (same_any _ _ _ _ _ (by exact unhide HR7) (by exact unhide HCUT _ (unhide HK7))).mono ?_; rintro e w8 ⟨rfl, m8, rfl⟩; rw [unhide HD]))
      clear e0 e1 v0 v1 r1 r2
      have e0 : w7.cell? ⟨w.heap.size, 0, none⟩ = some (.int .u64 0) := by rw [cell_of_row _ _ _ _ _ _ (unhide HG7)]; rfl
      have e1 : w7.cell? ⟨w.heap.size, 1, none⟩ = some (.slice none 0 0) := by rw [cell_of_row _ _ _ _ _ _ (unhide HG7)]; rfl
      have v0 : w7.frozen? ⟨w.heap.size, 0, none⟩ = false := frozen_of_row _ _ _ _ _ (unhide HG7)
      have v1 : w7.frozen? ⟨w.heap.size, 1, none⟩ = false := frozen_of_row _ _ _ _ _ (unhide HG7)
      cases D with
      | false =>
        have HN := hide ((unhide HNR).symm.trans (unhide HBD (docNone (unhide HGG) (unhide HGI) (by omega) (by omega) (unhide H).byte (of_decide_eq_false (unhide HD)))))
        go_wp2
        refine bodyPost_ret (v := .tuple #[.agg #[.int .u64 0, .slice none 0 0], .int .i64 n, .int .i64 2]) ?_ rfl ⟨_, by rw [unhide HN]; rfl, by rw [unhide HN]; exact NewP.nil _ _, put2_kept ((unhide HK7).drewN _) w.heap.size (Nat.le_refl _) (.int .u64 0) (.slice none 0 0)⟩
        exact results_cell_tmp2 rfl _ _ w.heap.size 91 #[.int .u64 0, .slice none 0 0] (0, 0) _ rfl (by exact put2_heap (w := w7.drewN _) (unhide HG7) (.int .u64 0) (.slice none 0 0)) Tryz.underlying91 rfl Tryz.size_refframe _ _ rfl rfl
      | true =>
        have hfs : firstF (p.drop n) = some (X3, pay5) := by
          have h9 := of_decide_eq_true (unhide HD)
          rw [show p.drop n = frB X3 pay5 ++ (p.drop n).drop (i6 - n) by rw [h9, List.take_append_drop]]
          exact firstF_some X3 pay5 _ hx3 (by rw [unhide HPL]; omega) (by rw [unhide HPL]; omega) (unhide HLB)
        have HN := hide ((unhide HNR).symm.trans (by unfold nextF; rw [if_neg h1, if_neg (by omega), Int.toNat_natCast, hfs] : nextF p n = ⟨X3, pay5, (n : Int) + 18 + pay5.length, 1⟩))
        have HI6 := hide (by rw [unhide HPL, (unhide HGI).2.2]; omega : (n : Int) + 18 + pay5.length = (i6 : Int))
        clear hfs
        go_wp2_with fail
        obtain ⟨W7, hW7⟩ : ∃ W, w7.drewN m8 = W := ⟨_, rfl⟩
        have HKW := hide ((unhide HK7).drewN m8)
        have HGW := hide (show (w7.drewN m8).heap[w.heap.size]? = _ from unhide HG7)
        have HPW := hide (show (w7.drewN m8).heap[w.heap.size + 1]? = _ from unhide HP7)
        have HBW := hide (show Rd (w7.drewN m8) _ _ from unhide HB7)
        rw [hW7] at HKW HGW HPW HBW ⊢
        clear hW7 e0 e1 v0 v1
        have e0 : W7.cell? ⟨w.heap.size, 0, none⟩ = some (.int .u64 0) := by rw [cell_of_row _ _ _ _ _ _ (unhide HGW)]; rfl
        have e1 : W7.cell? ⟨w.heap.size, 1, none⟩ = some (.slice none 0 0) := by rw [cell_of_row _ _ _ _ _ _ (unhide HGW)]; rfl
        have v0 : W7.frozen? ⟨w.heap.size, 0, none⟩ = false := frozen_of_row _ _ _ _ _ (unhide HGW)
        have v1 : W7.frozen? ⟨w.heap.size, 1, none⟩ = false := frozen_of_row _ _ _ _ _ (unhide HGW)
        have r1 : W7.cell? ⟨w.heap.size + 1, 1, none⟩ = some (.int .i64 i6) := by rw [cell_of_row _ _ _ _ _ _ (unhide HPW)]; rfl
        have HRQ := hide ((unhide HBW).kept (put2_kept' W7 w.heap.size (.int .u64 X3) (.slice ar nr cr)) (by
          intro x hx hm
          have h9 := unhide HBL x hx
          have h8 : x = w.heap.size := by simpa using hm
          omega))
        go_region_held3 (fun w' => w'.cell? ⟨w.heap.size + 1, 1, none⟩ = some (.int .i64 i6)) (go_keep) (fail)
        all_goals go_wp2
        all_goals
          refine bodyPost_ret (v := .tuple #[.agg #[.int .u64 X3, .slice ar nr cr], .int .i64 i6, .int .i64 1]) ?_ rfl ⟨.slice ar nr cr, by rw [unhide HN]; simp only; rw [unhide HI6]; rfl, by rw [unhide HN]; exact ⟨unhide HRQ, fun x hx => by have := unhide HBL x hx; omega⟩, (put2_kept (unhide HKW) w.heap.size (Nat.le_refl _) (.int .u64 X3) (.slice ar nr cr)).drew⟩
          exact results_cell_tmp2 rfl _ _ w.heap.size 91 #[.int .u64 X3, .slice ar nr cr] (0, 0) _ rfl (by exact put2_heap (unhide HGW) (.int .u64 X3) (.slice ar nr cr)) Tryz.underlying91 rfl Tryz.size_refframe _ _ rfl rfl
    · have hf6' : ((f6 : Int) != 0) = true := by rw [bne_iff_ne]; omega
      have HN := hide ((unhide HNR).symm.trans (unhide HBD (by
        unfold firstF
        rw [← (unhide HGG).2.1, if_neg]
        rintro ⟨_, _, _, h, _⟩
        rw [List.length_drop] at h
        have := (unhide HCI).2 hf6
        omega)))
      have hf6a : (f6 == 0) = false := by rw [beq_eq_false_iff_ne]; exact hf6
      go_quiet (fail)
      go_wp2
      refine bodyPost_ret (v := .tuple #[.agg #[.int .u64 0, .slice none 0 0], .int .i64 n, .int .i64 2]) ?_ rfl ⟨_, by rw [unhide HN]; rfl, by rw [unhide HN]; exact NewP.nil _ _, put2_kept ((unhide HQ6).drewN _) w.heap.size (Nat.le_refl _) (.int .u64 0) (.slice none 0 0)⟩
      exact results_cell_tmp2 rfl _ _ w.heap.size 91 #[.int .u64 0, .slice none 0 0] (0, 0) _ rfl (by exact put2_heap (w := W6.drewN _) (unhide HG6') (.int .u64 0) (.slice none 0 0)) Tryz.underlying91 rfl Tryz.size_refframe _ _ rfl rfl
  · have hf4' : ((f4 : Int) != 0) = true := by rw [bne_iff_ne]; omega
    have HN := hide ((unhide HNR).symm.trans (unhide HBD (firstF_short (by have := (unhide HCH).2 hf4; rw [List.length_drop]; omega))))
    go_wp2
    refine bodyPost_ret (v := .tuple #[.agg #[.int .u64 0, .slice none 0 0], .int .i64 n, .int .i64 2]) ?_ rfl ⟨_, by rw [unhide HN]; rfl, by rw [unhide HN]; exact NewP.nil _ _, put2_kept (unhide HQ4) w.heap.size (Nat.le_refl _) (.int .u64 0) (.slice none 0 0)⟩
    exact results_cell_tmp2 rfl _ _ w.heap.size _ #[.int .u64 0, .slice none 0 0] (0, 0) _ rfl (put2_heap (unhide HG4') (.int .u64 0) (.slice none 0 0)) Tryz.underlying91 rfl Tryz.size_refframe _ _ rfl rfl


end Go.Proofs.YtckkalmhekfnhaaGreatDoor
namespace Go.Proofs.YtckkalmhekfnhaaGreatDoor
open Go.RowKit Go.BigFrame
set_option linter.unusedVariables false
set_option linter.unusedSimpArgs false

theorem rRaw_five {pay raw : List Nat} {i0 e0 : Nat} (h : rRaw pay 0 0 5 = (raw, i0, e0)) : (5 ≤ pay.length ∧ i0 = 5 ∧ e0 = 0) ∨ (pay.length < 5 ∧ e0 ≠ 0 ∧ i0 = 0) := by
  unfold rRaw at h
  rw [if_neg (by simp), if_neg (by omega)] at h
  by_cases hl : pay.length < 5
  · rw [if_pos (by omega)] at h
    simp only [Prod.mk.injEq] at h
    exact Or.inr ⟨hl, by omega, by omega⟩
  · rw [if_neg (by omega)] at h
    simp only [Prod.mk.injEq] at h
    refine Or.inl ⟨by omega, ?_, by omega⟩
    have := h.2.1
    simp at this
    omega
theorem headChain {pay raw : List Nat} {i0 e0 a i1 e1 b i2 e2 c i3 e3 d i4 e4 : Nat} (h0 : rRaw pay 0 0 5 = (raw, i0, e0)) (h1 : rNum pay i0 e0 8 = (a, i1, e1)) (h2 : rNum pay i1 e1 8 = (b, i2, e2)) (h3 : rNum pay i2 e2 8 = (c, i3, e3)) (h4 : rNum pay i3 e3 1 = (d, i4, e4)) :
    (e4 = 0 → 30 ≤ pay.length ∧ a = beL ((pay.drop 5).take 8) ∧ b = beL ((pay.drop 13).take 8) ∧ c = beL ((pay.drop 21).take 8) ∧ d = beL ((pay.drop 29).take 1)) ∧ (e4 ≠ 0 → pay.length < 30) := by
  refine ⟨fun he => ?_, fun he => ?_⟩
  · subst he
    obtain ⟨f3, l3, x3, j3⟩ := rNum_ok h4
    subst f3
    obtain ⟨f2, l2, x2, j2⟩ := rNum_ok h3
    subst f2
    obtain ⟨f1, l1, x1, j1⟩ := rNum_ok h2
    subst f1
    obtain ⟨f0, l0, x0, j0⟩ := rNum_ok h1
    rcases rRaw_five h0 with ⟨_, q, _⟩ | ⟨_, q, _⟩
    · subst q
      subst j0
      subst j1
      subst j2
      exact ⟨by omega, x0, x1, x2, x3⟩
    · exact absurd f0 q
  · rcases Nat.lt_or_ge pay.length 30 with hl | hl
    · exact hl
    · exfalso
      rcases rRaw_five h0 with ⟨_, q, q2⟩ | ⟨q, _, _⟩
      · subst q
        subst q2
        by_cases g1 : e1 = 0
        · subst g1
          obtain ⟨_, _, _, j0⟩ := rNum_ok h1
          subst j0
          by_cases g2 : e2 = 0
          · subst g2
            obtain ⟨_, _, _, j1⟩ := rNum_ok h2
            subst j1
            by_cases g3 : e3 = 0
            · subst g3
              obtain ⟨_, _, _, j2⟩ := rNum_ok h3
              subst j2
              rcases rNum_bad h4 he with q | q
              · exact q rfl
              · omega
            · rcases rNum_bad h3 g3 with q | q
              · exact q rfl
              · omega
          · rcases rNum_bad h2 g2 with q | q
            · exact q rfl
            · omega
        · rcases rNum_bad h1 g1 with q | q
          · exact q rfl
          · omega
      · omega
theorem beL_one {p : List Nat} {i : Nat} (hb : ∀ x ∈ p, x < 256) (hi : i < p.length) : beL ((p.drop i).take 1) = p.getD i 0 := by
  have h1 := getD_drop0 (p.drop i) (fun x hx => hb x (List.mem_of_mem_drop hx)) (by simp; omega)
  rw [List.drop_zero] at h1
  rw [h1]
  simp [List.getD_eq_getElem?_getD, List.getElem?_drop]
theorem byte_at {p : List Nat} (hb : ∀ x ∈ p, x < 256) (i : Nat) : p.getD i 0 < 256 := by
  rw [List.getD_eq_getElem?_getD]
  by_cases h : i < p.length
  · rw [List.getElem?_eq_getElem h]; exact hb _ (List.getElem_mem _)
  · rw [List.getElem?_eq_none (by omega)]; simp
theorem frB_inj {pl pl' : Nat} {pay pay' : List Nat} (h : frB pl pay = frB pl' pay') (hpl : pl < 18446744073709551616) (hpl' : pl' < 18446744073709551616) (h1 : 1 ≤ pay.length) (hl : pay.length ≤ 65535) (hb : ∀ x ∈ pay, x < 256) (h1' : 1 ≤ pay'.length) (hl' : pay'.length ≤ 65535) (hb' : ∀ x ∈ pay', x < 256) : pl = pl' ∧ pay = pay' := by
  have e1 := firstF_some pl pay [] hpl h1 hl hb
  have e2 := firstF_some pl' pay' [] hpl' h1' hl' hb'
  rw [h, e2] at e1
  simp only [Option.some.injEq, Prod.mk.injEq] at e1
  exact ⟨e1.1.symm, e1.2.symm⟩
theorem cut30 {p : List Nat} (h : p.length = 30) : p = p.take 5 ++ (p.drop 5).take 8 ++ (p.drop 13).take 8 ++ (p.drop 21).take 8 ++ [p.getD 29 0] := by
  have hd : (p.drop 29) = [p.getD 29 0] := by
    rw [List.drop_eq_getElem_cons (by omega), List.drop_eq_nil_of_le (by omega)]
    simp [List.getD_eq_getElem?_getD, List.getElem?_eq_getElem (show 29 < p.length by omega)]
  rw [← hd]
  have e1 : p = p.take 5 ++ p.drop 5 := (List.take_append_drop 5 p).symm
  have e2 : p.drop 5 = (p.drop 5).take 8 ++ p.drop 13 := by
    have := (List.take_append_drop 8 (p.drop 5)).symm
    rwa [List.drop_drop] at this
  have e3 : p.drop 13 = (p.drop 13).take 8 ++ p.drop 21 := by
    have := (List.take_append_drop 8 (p.drop 13)).symm
    rwa [List.drop_drop] at this
  have e4 : p.drop 21 = (p.drop 21).take 8 ++ p.drop 29 := by
    have := (List.take_append_drop 8 (p.drop 21)).symm
    rwa [List.drop_drop] at this
  have e5 : p.take 5 ++ (p.drop 5).take 8 ++ (p.drop 13).take 8 ++ (p.drop 21).take 8 ++ p.drop 29 = p := by
    rw [List.append_assoc, List.append_assoc, List.append_assoc, ← e4, ← e3, ← e2]
    exact e1.symm
  exact e5.symm
theorem head_ok {pl a b c d : Nat} {pay : List Nat} (hb : ∀ x ∈ pay, x < 256) (hpl : pl < 18446744073709551616) (h30 : 30 ≤ pay.length) (hl : pay.length ≤ 65535) (ha : a = beL ((pay.drop 5).take 8)) (hbb : b = beL ((pay.drop 13).take 8)) (hc : c = beL ((pay.drop 21).take 8)) (hd : d = beL ((pay.drop 29).take 1)) :
    payH pl pay = (wideB (d : Int) && decide (frB a (headB a b c d) = frB pl pay)) := by
  rw [beL_one hb (by omega)] at hd
  have hd256 : d < 256 := by rw [hd]; exact byte_at hb 29
  have hw : wideB (d : Int) = decide (1 ≤ d ∧ d ≤ 32) := by unfold wideB; simp only [decide_eq_decide]; omega
  have hdm : ((d : Int) % 256).toNat = d := by omega
  have hal : a < 18446744073709551616 := by rw [ha]; exact beL_lt _
  have hz : (headB a b c (d : Int)).length = 30 := headB_len a b c d
  rw [hw]
  unfold payH
  rw [Bool.eq_iff_iff]
  simp only [decide_eq_true_eq, Bool.and_eq_true]
  constructor
  · rintro ⟨k1, k2, k3, k4, k5⟩
    rw [← hd] at k4 k5
    refine ⟨⟨k4, k5⟩, ?_⟩
    have hap : a = pl := by rw [ha, k3]
    have hpay : headB a b c (d : Int) = pay := by
      have w1 := (f_wide_beL (r := (pay.drop 5).take 8) (fun y hy => hb y (List.mem_of_mem_drop (List.mem_of_mem_take hy))) (by simp; omega)).1
      have w2 := (f_wide_beL (r := (pay.drop 13).take 8) (fun y hy => hb y (List.mem_of_mem_drop (List.mem_of_mem_take hy))) (by simp; omega)).1
      have w3 := (f_wide_beL (r := (pay.drop 21).take 8) (fun y hy => hb y (List.mem_of_mem_drop (List.mem_of_mem_take hy))) (by simp; omega)).1
      rw [show ((pay.drop 5).take 8).length = 8 by simp; omega, ← ha] at w1
      rw [show ((pay.drop 13).take 8).length = 8 by simp; omega, ← hbb] at w2
      rw [show ((pay.drop 21).take 8).length = 8 by simp; omega, ← hc] at w3
      have hcut := cut30 k1
      rw [← w1, ← w2, ← w3, k2, ← hd] at hcut
      unfold headB
      rw [hdm]
      exact hcut.symm
    rw [hpay, hap]
  · rintro ⟨⟨k4, k5⟩, k⟩
    obtain ⟨q1, q2⟩ := frB_inj k hal hpl (by omega) (by omega) (headB_byte a b c d) (by omega) hl hb
    obtain ⟨p1, _⟩ := headB_parts a b c (d : Int)
    rw [q2] at p1 hz
    exact ⟨hz, p1, by rw [← ha]; exact q1, by rw [← hd]; exact k4, by rw [← hd]; exact k5⟩
theorem rNum_byte {p : List Nat} {i e : Nat} (hb : ∀ x ∈ p, x < 256) : (rNum p i e 1).1 < 256 := by
  unfold rNum
  split
  · simp
  split
  · simp
  · have := Tryz.lt_of_beL hb i 1 (by omega)
    simpa using this
theorem rNum_lt {p : List Nat} {i e n X j f : Nat} (h : rNum p i e n = (X, j, f)) : X < 18446744073709551616 := by
  unfold rNum at h
  split at h
  · simp only [Prod.mk.injEq] at h; omega
  split at h
  · simp only [Prod.mk.injEq] at h; omega
  · simp only [Prod.mk.injEq] at h; rw [← h.1]; exact beL_lt _
theorem head_short {pl : Nat} {pay : List Nat} (h : pay.length < 30) : payH pl pay = false := by
  unfold payH
  rw [decide_eq_false_iff_not]
  omega
end Go.Proofs.YtckkalmhekfnhaaGreatDoor
/-
  Laws for drawn regions, by genreg.py. No program.
-/
namespace Go.Proofs.YtckkalmhekfnhaaGreatDoor
open Go Go.RowKit Go.BigFrame
set_option linter.unusedVariables false
set_option linter.unusedSimpArgs false
section
variable {P : Program} {Q : Exit → Act → World → Prop}
theorem wp_hd19 {id : Nat} {o0 o1 o2 o3 o4 o5 o6 o7 o8 o9 o10 o11 o12 o13 o14 o15 o16 o17 o18 : Oper} {a : Act} {w : World} (hm : P.follows .mixedOrders = true) (hs : Region.noSelect #[o0, o1, o2, o3, o4, o5, o6, o7, o8, o9, o10, o11, o12, o13, o14, o15, o16, o17, o18] = true)
    (f0 : Region.free .any #[o0, o1, o2, o3, o4, o5, o6, o7, o8, o9, o10, o11, o12, o13, o14, o15, o16, o17, o18] #[false, false, false, false, false, false, false, false, false, false, false, false, false, false, false, false, false, false, false] 0 = true) (r0 : (Region.ready .any #[o0, o1, o2, o3, o4, o5, o6, o7, o8, o9, o10, o11, o12, o13, o14, o15, o16, o17, o18] #[false, false, false, false, false, false, false, false, false, false, false, false, false, false, false, false, false, false, false]).contains 0 = true)
    (f1 : Region.free .any #[o0, o1, o2, o3, o4, o5, o6, o7, o8, o9, o10, o11, o12, o13, o14, o15, o16, o17, o18] #[true, false, false, false, false, false, false, false, false, false, false, false, false, false, false, false, false, false, false] 1 = true) (r1 : (Region.ready .any #[o0, o1, o2, o3, o4, o5, o6, o7, o8, o9, o10, o11, o12, o13, o14, o15, o16, o17, o18] #[true, false, false, false, false, false, false, false, false, false, false, false, false, false, false, false, false, false, false]).contains 1 = true)
    (f2 : Region.free .any #[o0, o1, o2, o3, o4, o5, o6, o7, o8, o9, o10, o11, o12, o13, o14, o15, o16, o17, o18] #[true, true, false, false, false, false, false, false, false, false, false, false, false, false, false, false, false, false, false] 2 = true) (r2 : (Region.ready .any #[o0, o1, o2, o3, o4, o5, o6, o7, o8, o9, o10, o11, o12, o13, o14, o15, o16, o17, o18] #[true, true, false, false, false, false, false, false, false, false, false, false, false, false, false, false, false, false, false]).contains 2 = true)
    (f3 : Region.free .any #[o0, o1, o2, o3, o4, o5, o6, o7, o8, o9, o10, o11, o12, o13, o14, o15, o16, o17, o18] #[true, true, true, false, false, false, false, false, false, false, false, false, false, false, false, false, false, false, false] 3 = true) (r3 : (Region.ready .any #[o0, o1, o2, o3, o4, o5, o6, o7, o8, o9, o10, o11, o12, o13, o14, o15, o16, o17, o18] #[true, true, true, false, false, false, false, false, false, false, false, false, false, false, false, false, false, false, false]).contains 3 = true)
    (f4 : Region.free .any #[o0, o1, o2, o3, o4, o5, o6, o7, o8, o9, o10, o11, o12, o13, o14, o15, o16, o17, o18] #[true, true, true, true, false, false, false, false, false, false, false, false, false, false, false, false, false, false, false] 4 = true) (r4 : (Region.ready .any #[o0, o1, o2, o3, o4, o5, o6, o7, o8, o9, o10, o11, o12, o13, o14, o15, o16, o17, o18] #[true, true, true, true, false, false, false, false, false, false, false, false, false, false, false, false, false, false, false]).contains 4 = true)
    (f5 : Region.free .any #[o0, o1, o2, o3, o4, o5, o6, o7, o8, o9, o10, o11, o12, o13, o14, o15, o16, o17, o18] #[true, true, true, true, true, false, false, false, false, false, false, false, false, false, false, false, false, false, false] 5 = true) (r5 : (Region.ready .any #[o0, o1, o2, o3, o4, o5, o6, o7, o8, o9, o10, o11, o12, o13, o14, o15, o16, o17, o18] #[true, true, true, true, true, false, false, false, false, false, false, false, false, false, false, false, false, false, false]).contains 5 = true)
    (q_ : Region.ready .any #[o0, o1, o2, o3, o4, o5, o6, o7, o8, o9, o10, o11, o12, o13, o14, o15, o16, o17, o18] #[true, true, true, true, true, true, false, false, false, false, false, false, false, false, false, false, false, false, false] = [6])
    (f_6_7 : Region.free .any #[o0, o1, o2, o3, o4, o5, o6, o7, o8, o9, o10, o11, o12, o13, o14, o15, o16, o17, o18] #[true, true, true, true, true, true, true, false, false, false, false, false, false, false, false, false, false, false, false] 7 = true) (r_6_7 : (Region.ready .any #[o0, o1, o2, o3, o4, o5, o6, o7, o8, o9, o10, o11, o12, o13, o14, o15, o16, o17, o18] #[true, true, true, true, true, true, true, false, false, false, false, false, false, false, false, false, false, false, false]).contains 7 = true)
    (f_6_8 : Region.free .any #[o0, o1, o2, o3, o4, o5, o6, o7, o8, o9, o10, o11, o12, o13, o14, o15, o16, o17, o18] #[true, true, true, true, true, true, true, true, false, false, false, false, false, false, false, false, false, false, false] 8 = true) (r_6_8 : (Region.ready .any #[o0, o1, o2, o3, o4, o5, o6, o7, o8, o9, o10, o11, o12, o13, o14, o15, o16, o17, o18] #[true, true, true, true, true, true, true, true, false, false, false, false, false, false, false, false, false, false, false]).contains 8 = true)
    (f_6_9 : Region.free .any #[o0, o1, o2, o3, o4, o5, o6, o7, o8, o9, o10, o11, o12, o13, o14, o15, o16, o17, o18] #[true, true, true, true, true, true, true, true, true, false, false, false, false, false, false, false, false, false, false] 9 = true) (r_6_9 : (Region.ready .any #[o0, o1, o2, o3, o4, o5, o6, o7, o8, o9, o10, o11, o12, o13, o14, o15, o16, o17, o18] #[true, true, true, true, true, true, true, true, true, false, false, false, false, false, false, false, false, false, false]).contains 9 = true)
    (f_6_11 : Region.free .any #[o0, o1, o2, o3, o4, o5, o6, o7, o8, o9, o10, o11, o12, o13, o14, o15, o16, o17, o18] #[true, true, true, true, true, true, true, true, true, true, false, false, false, false, false, false, false, false, false] 11 = true) (r_6_11 : (Region.ready .any #[o0, o1, o2, o3, o4, o5, o6, o7, o8, o9, o10, o11, o12, o13, o14, o15, o16, o17, o18] #[true, true, true, true, true, true, true, true, true, true, false, false, false, false, false, false, false, false, false]).contains 11 = true)
    (f_6_12 : Region.free .any #[o0, o1, o2, o3, o4, o5, o6, o7, o8, o9, o10, o11, o12, o13, o14, o15, o16, o17, o18] #[true, true, true, true, true, true, true, true, true, true, false, true, false, false, false, false, false, false, false] 12 = true) (r_6_12 : (Region.ready .any #[o0, o1, o2, o3, o4, o5, o6, o7, o8, o9, o10, o11, o12, o13, o14, o15, o16, o17, o18] #[true, true, true, true, true, true, true, true, true, true, false, true, false, false, false, false, false, false, false]).contains 12 = true)
    (f_6_13 : Region.free .any #[o0, o1, o2, o3, o4, o5, o6, o7, o8, o9, o10, o11, o12, o13, o14, o15, o16, o17, o18] #[true, true, true, true, true, true, true, true, true, true, false, true, true, false, false, false, false, false, false] 13 = true) (r_6_13 : (Region.ready .any #[o0, o1, o2, o3, o4, o5, o6, o7, o8, o9, o10, o11, o12, o13, o14, o15, o16, o17, o18] #[true, true, true, true, true, true, true, true, true, true, false, true, true, false, false, false, false, false, false]).contains 13 = true)
    (f_6_14 : Region.free .any #[o0, o1, o2, o3, o4, o5, o6, o7, o8, o9, o10, o11, o12, o13, o14, o15, o16, o17, o18] #[true, true, true, true, true, true, true, true, true, true, false, true, true, true, false, false, false, false, false] 14 = true) (r_6_14 : (Region.ready .any #[o0, o1, o2, o3, o4, o5, o6, o7, o8, o9, o10, o11, o12, o13, o14, o15, o16, o17, o18] #[true, true, true, true, true, true, true, true, true, true, false, true, true, true, false, false, false, false, false]).contains 14 = true)
    (q6_ : Region.ready .any #[o0, o1, o2, o3, o4, o5, o6, o7, o8, o9, o10, o11, o12, o13, o14, o15, o16, o17, o18] #[true, true, true, true, true, true, true, true, true, true, false, true, true, true, true, false, false, false, false] = [10])
    (q6_10_ : Region.ready .any #[o0, o1, o2, o3, o4, o5, o6, o7, o8, o9, o10, o11, o12, o13, o14, o15, o16, o17, o18] #[true, true, true, true, true, true, true, true, true, true, true, true, true, true, true, false, false, false, false] = [15])
    (q6_10_15_ : Region.ready .any #[o0, o1, o2, o3, o4, o5, o6, o7, o8, o9, o10, o11, o12, o13, o14, o15, o16, o17, o18] #[true, true, true, true, true, true, true, true, true, true, true, true, true, true, true, true, false, false, false] = [16])
    (f6_10_15_16_17 : Region.free .any #[o0, o1, o2, o3, o4, o5, o6, o7, o8, o9, o10, o11, o12, o13, o14, o15, o16, o17, o18] #[true, true, true, true, true, true, true, true, true, true, true, true, true, true, true, true, true, false, false] 17 = true) (r6_10_15_16_17 : (Region.ready .any #[o0, o1, o2, o3, o4, o5, o6, o7, o8, o9, o10, o11, o12, o13, o14, o15, o16, o17, o18] #[true, true, true, true, true, true, true, true, true, true, true, true, true, true, true, true, true, false, false]).contains 17 = true)
    (f6_10_15_16_18 : Region.free .any #[o0, o1, o2, o3, o4, o5, o6, o7, o8, o9, o10, o11, o12, o13, o14, o15, o16, o17, o18] #[true, true, true, true, true, true, true, true, true, true, true, true, true, true, true, true, true, true, false] 18 = true) (r6_10_15_16_18 : (Region.ready .any #[o0, o1, o2, o3, o4, o5, o6, o7, o8, o9, o10, o11, o12, o13, o14, o15, o16, o17, o18] #[true, true, true, true, true, true, true, true, true, true, true, true, true, true, true, true, true, true, false]).contains 18 = true)
    (q6_10_15_16_ : Region.ready .any #[o0, o1, o2, o3, o4, o5, o6, o7, o8, o9, o10, o11, o12, o13, o14, o15, o16, o17, o18] #[true, true, true, true, true, true, true, true, true, true, true, true, true, true, true, true, true, true, true] = [])

    (ne14_10 : ∀ d, o14.dst = some d → o10.dst ≠ some d)
    (ne13_10 : ∀ d, o13.dst = some d → o10.dst ≠ some d)
    (ne12_10 : ∀ d, o12.dst = some d → o10.dst ≠ some d)
    (ne11_10 : ∀ d, o11.dst = some d → o10.dst ≠ some d)
    (v0 v1 v2 v3 v4 v5 : Value) (A0 A1 A2 A3 A4 A5 : Act)
    (S : World → Prop)
    (I_ : World → Prop)
    (I6_ : Value → World → Prop)
    (I6_10_ : Value → Value → World → Prop)
    (I6_10_15_ : Value → Value → Value → World → Prop)
    (I6_10_15_16_ : Value → Value → Value → Value → World → Prop)
    (v7 : Value → Value)
    (v8 : Value → Value)
    (v9 : Value → Value)
    (v11 : Value → Value)
    (v12 : Value → Value)
    (v13 : Value → Value)
    (v14 : Value → Value)
    (v17 : Value → Value → Value → Value → Value)
    (v18 : Value → Value → Value → Value → Value)
    (p0 : a.put o0.dst v0 = A0) (hy0 : YieldsIf P #[o0, o1, o2, o3, o4, o5, o6, o7, o8, o9, o10, o11, o12, o13, o14, o15, o16, o17, o18] S o0 v0 a)
    (p1 : A0.put o1.dst v1 = A1) (hy1 : YieldsIf P #[o0, o1, o2, o3, o4, o5, o6, o7, o8, o9, o10, o11, o12, o13, o14, o15, o16, o17, o18] S o1 v1 A0)
    (p2 : A1.put o2.dst v2 = A2) (hy2 : YieldsIf P #[o0, o1, o2, o3, o4, o5, o6, o7, o8, o9, o10, o11, o12, o13, o14, o15, o16, o17, o18] S o2 v2 A1)
    (p3 : A2.put o3.dst v3 = A3) (hy3 : YieldsIf P #[o0, o1, o2, o3, o4, o5, o6, o7, o8, o9, o10, o11, o12, o13, o14, o15, o16, o17, o18] S o3 v3 A2)
    (p4 : A3.put o4.dst v4 = A4) (hy4 : YieldsIf P #[o0, o1, o2, o3, o4, o5, o6, o7, o8, o9, o10, o11, o12, o13, o14, o15, o16, o17, o18] S o4 v4 A3)
    (p5 : A4.put o5.dst v5 = A5) (hy5 : YieldsIf P #[o0, o1, o2, o3, o4, o5, o6, o7, o8, o9, o10, o11, o12, o13, o14, o15, o16, o17, o18] S o5 v5 A4)
    (i0 : I_ w.drew)
    (hIS : (∀ w', I_  w' → S w') ∧ (∀ (u6 : Value) w', I6_ u6 w' → S w') ∧ (∀ (u6 u10 : Value) w', I6_10_ u6 u10 w' → S w') ∧ (∀ (u6 u10 u15 : Value) w', I6_10_15_ u6 u10 u15 w' → S w') ∧ (∀ (u6 u10 u15 u16 : Value) w', I6_10_15_16_ u6 u10 u15 u16 w' → S w'))
    (wg_6 : Region.wanted o6 (yielded #[o0, o1, o2, o3, o4, o5, o6, o7, o8, o9, o10, o11, o12, o13, o14, o15, o16, o17, o18] A5.tmps) = true)
    (wg6_10 : ∀ (u6 : Value), Region.wanted o10 (yielded #[o0, o1, o2, o3, o4, o5, o6, o7, o8, o9, o10, o11, o12, o13, o14, o15, o16, o17, o18] ((((((((A5.put o6.dst u6).put o7.dst (v7 u6)).put o8.dst (v8 u6)).put o9.dst (v9 u6)).put o11.dst (v11 u6)).put o12.dst (v12 u6)).put o13.dst (v13 u6)).put o14.dst (v14 u6)).tmps) = true)
    (wg6_10_15 : ∀ (u6 u10 : Value), Region.wanted o15 (yielded #[o0, o1, o2, o3, o4, o5, o6, o7, o8, o9, o10, o11, o12, o13, o14, o15, o16, o17, o18] (((((((((A5.put o6.dst u6).put o7.dst (v7 u6)).put o8.dst (v8 u6)).put o9.dst (v9 u6)).put o10.dst u10).put o11.dst (v11 u6)).put o12.dst (v12 u6)).put o13.dst (v13 u6)).put o14.dst (v14 u6)).tmps) = true)
    (wg6_10_15_16 : ∀ (u6 u10 u15 : Value), Region.wanted o16 (yielded #[o0, o1, o2, o3, o4, o5, o6, o7, o8, o9, o10, o11, o12, o13, o14, o15, o16, o17, o18] ((((((((((A5.put o6.dst u6).put o7.dst (v7 u6)).put o8.dst (v8 u6)).put o9.dst (v9 u6)).put o10.dst u10).put o11.dst (v11 u6)).put o12.dst (v12 u6)).put o13.dst (v13 u6)).put o14.dst (v14 u6)).put o15.dst u15).tmps) = true)
    (s_6 : ∀ w', I_  w' → ∀ K : Act → World → Prop, (∀ (u6 : Value) w2, I6_ u6 w2 → K (A5.put o6.dst u6) w2) → o6.wp P A5 w' K (NoPanic Q))
    (s6_10 : ∀ (u6 : Value) w', I6_ u6 w' → ∀ K : Act → World → Prop, (∀ (u10 : Value) w2, I6_10_ u6 u10 w2 → K (((((((((A5.put o6.dst u6).put o7.dst (v7 u6)).put o8.dst (v8 u6)).put o9.dst (v9 u6)).put o11.dst (v11 u6)).put o12.dst (v12 u6)).put o13.dst (v13 u6)).put o14.dst (v14 u6)).put o10.dst u10) w2) → o10.wp P ((((((((A5.put o6.dst u6).put o7.dst (v7 u6)).put o8.dst (v8 u6)).put o9.dst (v9 u6)).put o11.dst (v11 u6)).put o12.dst (v12 u6)).put o13.dst (v13 u6)).put o14.dst (v14 u6)) w' K (NoPanic Q))
    (s6_10_15 : ∀ (u6 u10 : Value) w', I6_10_ u6 u10 w' → ∀ K : Act → World → Prop, (∀ (u15 : Value) w2, I6_10_15_ u6 u10 u15 w2 → K ((((((((((A5.put o6.dst u6).put o7.dst (v7 u6)).put o8.dst (v8 u6)).put o9.dst (v9 u6)).put o10.dst u10).put o11.dst (v11 u6)).put o12.dst (v12 u6)).put o13.dst (v13 u6)).put o14.dst (v14 u6)).put o15.dst u15) w2) → o15.wp P (((((((((A5.put o6.dst u6).put o7.dst (v7 u6)).put o8.dst (v8 u6)).put o9.dst (v9 u6)).put o10.dst u10).put o11.dst (v11 u6)).put o12.dst (v12 u6)).put o13.dst (v13 u6)).put o14.dst (v14 u6)) w' K (NoPanic Q))
    (s6_10_15_16 : ∀ (u6 u10 u15 : Value) w', I6_10_15_ u6 u10 u15 w' → ∀ K : Act → World → Prop, (∀ (u16 : Value) w2, I6_10_15_16_ u6 u10 u15 u16 w2 → K (((((((((((A5.put o6.dst u6).put o7.dst (v7 u6)).put o8.dst (v8 u6)).put o9.dst (v9 u6)).put o10.dst u10).put o11.dst (v11 u6)).put o12.dst (v12 u6)).put o13.dst (v13 u6)).put o14.dst (v14 u6)).put o15.dst u15).put o16.dst u16) w2) → o16.wp P ((((((((((A5.put o6.dst u6).put o7.dst (v7 u6)).put o8.dst (v8 u6)).put o9.dst (v9 u6)).put o10.dst u10).put o11.dst (v11 u6)).put o12.dst (v12 u6)).put o13.dst (v13 u6)).put o14.dst (v14 u6)).put o15.dst u15) w' K (NoPanic Q))
    (y_6_7 : ∀ (u6 : Value) w', I6_ u6 w' → YieldsIf P #[o0, o1, o2, o3, o4, o5, o6, o7, o8, o9, o10, o11, o12, o13, o14, o15, o16, o17, o18] S o7 (v7 u6) (A5.put o6.dst u6))
    (y_6_8 : ∀ (u6 : Value) w', I6_ u6 w' → YieldsIf P #[o0, o1, o2, o3, o4, o5, o6, o7, o8, o9, o10, o11, o12, o13, o14, o15, o16, o17, o18] S o8 (v8 u6) ((A5.put o6.dst u6).put o7.dst (v7 u6)))
    (y_6_9 : ∀ (u6 : Value) w', I6_ u6 w' → YieldsIf P #[o0, o1, o2, o3, o4, o5, o6, o7, o8, o9, o10, o11, o12, o13, o14, o15, o16, o17, o18] S o9 (v9 u6) (((A5.put o6.dst u6).put o7.dst (v7 u6)).put o8.dst (v8 u6)))
    (y_6_11 : ∀ (u6 : Value) w', I6_ u6 w' → YieldsIf P #[o0, o1, o2, o3, o4, o5, o6, o7, o8, o9, o10, o11, o12, o13, o14, o15, o16, o17, o18] S o11 (v11 u6) ((((A5.put o6.dst u6).put o7.dst (v7 u6)).put o8.dst (v8 u6)).put o9.dst (v9 u6)))
    (y_6_12 : ∀ (u6 : Value) w', I6_ u6 w' → YieldsIf P #[o0, o1, o2, o3, o4, o5, o6, o7, o8, o9, o10, o11, o12, o13, o14, o15, o16, o17, o18] S o12 (v12 u6) (((((A5.put o6.dst u6).put o7.dst (v7 u6)).put o8.dst (v8 u6)).put o9.dst (v9 u6)).put o11.dst (v11 u6)))
    (y_6_13 : ∀ (u6 : Value) w', I6_ u6 w' → YieldsIf P #[o0, o1, o2, o3, o4, o5, o6, o7, o8, o9, o10, o11, o12, o13, o14, o15, o16, o17, o18] S o13 (v13 u6) ((((((A5.put o6.dst u6).put o7.dst (v7 u6)).put o8.dst (v8 u6)).put o9.dst (v9 u6)).put o11.dst (v11 u6)).put o12.dst (v12 u6)))
    (y_6_14 : ∀ (u6 : Value) w', I6_ u6 w' → YieldsIf P #[o0, o1, o2, o3, o4, o5, o6, o7, o8, o9, o10, o11, o12, o13, o14, o15, o16, o17, o18] S o14 (v14 u6) (((((((A5.put o6.dst u6).put o7.dst (v7 u6)).put o8.dst (v8 u6)).put o9.dst (v9 u6)).put o11.dst (v11 u6)).put o12.dst (v12 u6)).put o13.dst (v13 u6)))
    (y6_10_15_16_17 : ∀ (u6 u10 u15 u16 : Value) w', I6_10_15_16_ u6 u10 u15 u16 w' → YieldsIf P #[o0, o1, o2, o3, o4, o5, o6, o7, o8, o9, o10, o11, o12, o13, o14, o15, o16, o17, o18] S o17 (v17 u6 u10 u15 u16) (((((((((((A5.put o6.dst u6).put o7.dst (v7 u6)).put o8.dst (v8 u6)).put o9.dst (v9 u6)).put o10.dst u10).put o11.dst (v11 u6)).put o12.dst (v12 u6)).put o13.dst (v13 u6)).put o14.dst (v14 u6)).put o15.dst u15).put o16.dst u16))
    (y6_10_15_16_18 : ∀ (u6 u10 u15 u16 : Value) w', I6_10_15_16_ u6 u10 u15 u16 w' → YieldsIf P #[o0, o1, o2, o3, o4, o5, o6, o7, o8, o9, o10, o11, o12, o13, o14, o15, o16, o17, o18] S o18 (v18 u6 u10 u15 u16) ((((((((((((A5.put o6.dst u6).put o7.dst (v7 u6)).put o8.dst (v8 u6)).put o9.dst (v9 u6)).put o10.dst u10).put o11.dst (v11 u6)).put o12.dst (v12 u6)).put o13.dst (v13 u6)).put o14.dst (v14 u6)).put o15.dst u15).put o16.dst u16).put o17.dst (v17 u6 u10 u15 u16)))
    (h : ∀ (u6 u10 u15 u16 : Value) w', I6_10_15_16_ u6 u10 u15 u16 w' → Q .normal (((((((((((((A5.put o6.dst u6).put o7.dst (v7 u6)).put o8.dst (v8 u6)).put o9.dst (v9 u6)).put o10.dst u10).put o11.dst (v11 u6)).put o12.dst (v12 u6)).put o13.dst (v13 u6)).put o14.dst (v14 u6)).put o15.dst u15).put o16.dst u16).put o17.dst (v17 u6 u10 u15 u16)).put o18.dst (v18 u6 u10 u15 u16)) w') :
    (Code.region id #[o0, o1, o2, o3, o4, o5, o6, o7, o8, o9, o10, o11, o12, o13, o14, o15, o16, o17, o18] true).wp P Q a w := by
  subst p0 p1 p2 p3 p4 p5
  obtain ⟨z_, z6_, z6_10_, z6_10_15_, z6_10_15_16_⟩ := hIS
  refine wp_region_noPanic ?_
  refine wp_region_held_drew (S := S) hm (z_ _ i0) (fun hH => ?_)
  show wpAnyH P .any #[o0, o1, o2, o3, o4, o5, o6, o7, o8, o9, o10, o11, o12, o13, o14, o15, o16, o17, o18] (NoPanic Q) S 19 #[false, false, false, false, false, false, false, false, false, false, false, false, false, false, false, false, false, false, false] a w.drew
  refine wpAnyH_take (i := 0) (oi := o0) rfl hs f0 r0 (fun _ _ _ h => h) hy0 hH ?_
  refine wpAnyH_take (i := 1) (oi := o1) rfl hs f1 r1 (fun _ _ _ h => h) hy1 hH ?_
  refine wpAnyH_take (i := 2) (oi := o2) rfl hs f2 r2 (fun _ _ _ h => h) hy2 hH ?_
  refine wpAnyH_take (i := 3) (oi := o3) rfl hs f3 r3 (fun _ _ _ h => h) hy3 hH ?_
  refine wpAnyH_take (i := 4) (oi := o4) rfl hs f4 r4 (fun _ _ _ h => h) hy4 hH ?_
  refine wpAnyH_take (i := 5) (oi := o5) rfl hs f5 r5 (fun _ _ _ h => h) hy5 hH ?_
  generalize ((((((a.put o0.dst v0).put o1.dst v1).put o2.dst v2).put o3.dst v3).put o4.dst v4).put o5.dst v5) = B at *
  have t6_10_15_16_ : ∀ (u6 u10 u15 u16 : Value) w', I6_10_15_16_ u6 u10 u15 u16 w' → wpAnyH P .any #[o0, o1, o2, o3, o4, o5, o6, o7, o8, o9, o10, o11, o12, o13, o14, o15, o16, o17, o18] (NoPanic Q) S 0 #[true, true, true, true, true, true, true, true, true, true, true, true, true, true, true, true, true, true, true] (((((((((((((B.put o6.dst u6).put o7.dst (v7 u6)).put o8.dst (v8 u6)).put o9.dst (v9 u6)).put o10.dst u10).put o11.dst (v11 u6)).put o12.dst (v12 u6)).put o13.dst (v13 u6)).put o14.dst (v14 u6)).put o15.dst u15).put o16.dst u16).put o17.dst (v17 u6 u10 u15 u16)).put o18.dst (v18 u6 u10 u15 u16)) w' := by
    intro u6 u10 u15 u16 w0 i0
    exact ⟨q6_10_15_16_, NoPanic.normal (h u6 u10 u15 u16 w0 i0)⟩
  have t6_10_15_ : ∀ (u6 u10 u15 : Value) w', I6_10_15_ u6 u10 u15 w' → wpAnyH P .any #[o0, o1, o2, o3, o4, o5, o6, o7, o8, o9, o10, o11, o12, o13, o14, o15, o16, o17, o18] (NoPanic Q) S 3 #[true, true, true, true, true, true, true, true, true, true, true, true, true, true, true, true, false, false, false] ((((((((((B.put o6.dst u6).put o7.dst (v7 u6)).put o8.dst (v8 u6)).put o9.dst (v9 u6)).put o10.dst u10).put o11.dst (v11 u6)).put o12.dst (v12 u6)).put o13.dst (v13 u6)).put o14.dst (v14 u6)).put o15.dst u15) w' := by
    intro u6 u10 u15 w0 i0
    refine wpAnyH_ready (rs := [16]) q6_10_15_ (by simp) (AllReadyH.cons (o := o16) rfl (fun K hK => ?_) AllReadyH.nil)
    · rw [if_pos (wg6_10_15_16 u6 u10 u15)]
      refine s6_10_15_16 u6 u10 u15 w0 i0 K (fun u16 w1 i1 => hK.out _ _ (z6_10_15_16_ u6 u10 u15 u16 w1 i1) (fun _ => ?_))
      clear hK
      refine wpAnyH_take (i := 17) (oi := o17) rfl hs f6_10_15_16_17 r6_10_15_16_17 (fun _ _ _ h => h) (y6_10_15_16_17 u6 u10 u15 u16 w1 i1) (z6_10_15_16_ u6 u10 u15 u16 w1 i1) ?_
      refine wpAnyH_take (i := 18) (oi := o18) rfl hs f6_10_15_16_18 r6_10_15_16_18 (fun _ _ _ h => h) (y6_10_15_16_18 u6 u10 u15 u16 w1 i1) (z6_10_15_16_ u6 u10 u15 u16 w1 i1) ?_
      exact t6_10_15_16_ u6 u10 u15 u16 w1 i1
  have t6_10_ : ∀ (u6 u10 : Value) w', I6_10_ u6 u10 w' → wpAnyH P .any #[o0, o1, o2, o3, o4, o5, o6, o7, o8, o9, o10, o11, o12, o13, o14, o15, o16, o17, o18] (NoPanic Q) S 4 #[true, true, true, true, true, true, true, true, true, true, true, true, true, true, true, false, false, false, false] (((((((((B.put o6.dst u6).put o7.dst (v7 u6)).put o8.dst (v8 u6)).put o9.dst (v9 u6)).put o10.dst u10).put o11.dst (v11 u6)).put o12.dst (v12 u6)).put o13.dst (v13 u6)).put o14.dst (v14 u6)) w' := by
    intro u6 u10 w0 i0
    refine wpAnyH_ready (rs := [15]) q6_10_ (by simp) (AllReadyH.cons (o := o15) rfl (fun K hK => ?_) AllReadyH.nil)
    · rw [if_pos (wg6_10_15 u6 u10)]
      refine s6_10_15 u6 u10 w0 i0 K (fun u15 w1 i1 => hK.out _ _ (z6_10_15_ u6 u10 u15 w1 i1) (fun _ => ?_))
      clear hK
      exact t6_10_15_ u6 u10 u15 w1 i1
  have t6_ : ∀ (u6 : Value) w', I6_ u6 w' → wpAnyH P .any #[o0, o1, o2, o3, o4, o5, o6, o7, o8, o9, o10, o11, o12, o13, o14, o15, o16, o17, o18] (NoPanic Q) S 5 #[true, true, true, true, true, true, true, true, true, true, false, true, true, true, true, false, false, false, false] ((((((((B.put o6.dst u6).put o7.dst (v7 u6)).put o8.dst (v8 u6)).put o9.dst (v9 u6)).put o11.dst (v11 u6)).put o12.dst (v12 u6)).put o13.dst (v13 u6)).put o14.dst (v14 u6)) w' := by
    intro u6 w0 i0
    refine wpAnyH_ready (rs := [10]) q6_ (by simp) (AllReadyH.cons (o := o10) rfl (fun K hK => ?_) AllReadyH.nil)
    · rw [if_pos (wg6_10 u6)]
      refine s6_10 u6 w0 i0 K (fun u10 w1 i1 => hK.out _ _ (z6_10_ u6 u10 w1 i1) (fun _ => ?_))
      clear hK
      rw [Act.put_comm _ _ _ ne14_10]
      rw [Act.put_comm _ _ _ ne13_10]
      rw [Act.put_comm _ _ _ ne12_10]
      rw [Act.put_comm _ _ _ ne11_10]
      exact t6_10_ u6 u10 w1 i1
  have t_ : ∀ w', I_  w' → wpAnyH P .any #[o0, o1, o2, o3, o4, o5, o6, o7, o8, o9, o10, o11, o12, o13, o14, o15, o16, o17, o18] (NoPanic Q) S 13 #[true, true, true, true, true, true, false, false, false, false, false, false, false, false, false, false, false, false, false] B w' := by
    intro w0 i0
    refine wpAnyH_ready (rs := [6]) q_ (by simp) (AllReadyH.cons (o := o6) rfl (fun K hK => ?_) AllReadyH.nil)
    · rw [if_pos (wg_6 )]
      refine s_6  w0 i0 K (fun u6 w1 i1 => hK.out _ _ (z6_ u6 w1 i1) (fun _ => ?_))
      clear hK
      refine wpAnyH_take (i := 7) (oi := o7) rfl hs f_6_7 r_6_7 (fun _ _ _ h => h) (y_6_7 u6 w1 i1) (z6_ u6 w1 i1) ?_
      refine wpAnyH_take (i := 8) (oi := o8) rfl hs f_6_8 r_6_8 (fun _ _ _ h => h) (y_6_8 u6 w1 i1) (z6_ u6 w1 i1) ?_
      refine wpAnyH_take (i := 9) (oi := o9) rfl hs f_6_9 r_6_9 (fun _ _ _ h => h) (y_6_9 u6 w1 i1) (z6_ u6 w1 i1) ?_
      refine wpAnyH_take (i := 11) (oi := o11) rfl hs f_6_11 r_6_11 (fun _ _ _ h => h) (y_6_11 u6 w1 i1) (z6_ u6 w1 i1) ?_
      refine wpAnyH_take (i := 12) (oi := o12) rfl hs f_6_12 r_6_12 (fun _ _ _ h => h) (y_6_12 u6 w1 i1) (z6_ u6 w1 i1) ?_
      refine wpAnyH_take (i := 13) (oi := o13) rfl hs f_6_13 r_6_13 (fun _ _ _ h => h) (y_6_13 u6 w1 i1) (z6_ u6 w1 i1) ?_
      refine wpAnyH_take (i := 14) (oi := o14) rfl hs f_6_14 r_6_14 (fun _ _ _ h => h) (y_6_14 u6 w1 i1) (z6_ u6 w1 i1) ?_
      exact t6_ u6 w1 i1
  exact t_ w.drew i0

end
end Go.Proofs.YtckkalmhekfnhaaGreatDoor
