import Derived.Test.YtocpfbcbfgbdoaaEBatR
namespace Go.Proofs.Ytocpfbcbfgbdoaa
open Go.RowKit Go.BigFrame
set_option linter.unusedVariables false
set_option linter.unusedSimpArgs false

def tri (n : Nat) : Prop := n = 0 ∨ n = 2 ∨ n = 3
theorem chkE_tri (e : En) : tri (chkE e) := by
  unfold chkE tri; split
  · simp
  · split <;> simp
theorem cntE_tri (f n : Nat) : tri (cntE f n) := by
  unfold cntE tri; split
  · simp
  · split <;> simp
theorem least_tri {a b : Nat} (ha : tri a) (hb : tri b) : tri (leastE a b) := by
  unfold leastE; split
  · exact hb
  · exact ha
theorem fold_tri (es : List En) : ∀ z, tri z → tri (es.foldl (fun a e => leastE a (chkE e)) z) := by
  induction es with
  | nil => intro z h; exact h
  | cons x xs ih => intro z h; exact ih _ (least_tri h (chkE_tri x))
theorem least_two {b : Nat} (hb : tri b) : leastE 2 b = 2 := by
  unfold leastE
  rcases hb with h | h | h <;> subst h <;> rfl
theorem least_two' {a : Nat} (ha : tri a) : leastE a 2 = 2 := by
  unfold leastE
  rcases ha with h | h | h <;> subst h <;> rfl
theorem fold_two (es : List En) : es.foldl (fun a e => leastE a (chkE e)) 2 = 2 := by
  induction es with
  | nil => rfl
  | cons x xs ih => rw [List.foldl_cons, least_two (chkE_tri x)]; exact ih
theorem chkB_long {f : Nat} {es : List En} (h : 64 < es.length) : chkB f es = 2 := by
  unfold chkB
  rw [show cntE f es.length = 2 by unfold cntE; rw [if_pos h]]
  exact fold_two es
theorem chkB_at {f : Nat} {es : List En} (i : Nat) (h : i < es.length) (h2 : chkE es[i] = 2) : chkB f es = 2 := by
  unfold chkB
  have e : es = es.take i ++ (es[i] :: es.drop (i + 1)) := by
    rw [← List.drop_eq_getElem_cons h, List.take_append_drop]
  conv => lhs; rw [e, List.foldl_append, List.foldl_cons]
  rw [← e, h2, least_two' (fold_tri _ _ (cntE_tri _ _))]
  exact fold_two _
theorem least_max {a b : Nat} (ha : tri a) (ha2 : a ≠ 2) (hb : tri b) (hb2 : b ≠ 2) : leastE a b = max a b := by
  unfold leastE
  rcases ha with h | h | h <;> rcases hb with h' | h' | h' <;> subst h <;> subst h' <;> first | rfl | (exact absurd rfl ha2) | (exact absurd rfl hb2)

set_option maxRecDepth 100000 in
set_option maxHeartbeats 1000000 in
theorem fits5_any (f n : Nat) (w : World) (hf : f < 18446744073709551616) (hn : n < 9223372036854775808) :
    Calls Try.prog 65 #[.int .u64 f, .int .i64 n] w fun r w' => r = .returned (.bool (decide (f + n < 18446744073709551616))) ∧ w' = w := by
  have h1 : IntKind.u64.wrap (n : Int) = n := by simp [IntKind.wrap, IntKind.signed, IntKind.bits]; omega
  by_cases h : f + n < 18446744073709551616
  · have h2 : IntKind.u64.wrap ((f : Int) + n) = f + n := by simp [IntKind.wrap, IntKind.signed, IntKind.bits]; omega
    have h2' : ((f : Int) + n) % 18446744073709551616 = f + n := by omega
    have h3 : (f : Int) ≤ f + n := by omega
    have HD := hide (decide_eq_true h)
    go_enter Try.func65, Try.ntmps65
    go_wp2
    go_ret
    exact ⟨by first | rfl | (rw [unhide HD]; rfl), rfl⟩
  · have h2 : IntKind.u64.wrap ((f : Int) + n) = f + n - 18446744073709551616 := by simp [IntKind.wrap, IntKind.signed, IntKind.bits]; omega
    have h2' : ((f : Int) + n) % 18446744073709551616 = f + n - 18446744073709551616 := by omega
    have h3 : ¬ (f : Int) ≤ f + n - 18446744073709551616 := by omega
    have HD := hide (decide_eq_false h)
    go_enter Try.func65, Try.ntmps65
    go_wp2
    go_ret
    exact ⟨by first | rfl | (rw [unhide HD]; rfl), rfl⟩

set_option maxRecDepth 100000 in
set_option maxHeartbeats 1000000 in
theorem docCheckBatch_any (f : Nat) (v : Value) (es : List En) (w : World) (hf : f < 18446744073709551616) (h : RdN w v es) (hl : es.length ≤ 1048576) :
    Calls Try.prog 36 #[.agg #[.int .u64 f, v]] w fun r w' => r = .returned (.int .i64 (chkB f es)) ∧ Kept [] w w' := by
  obtain ⟨ao, len, cap, kv, vv, rfl, h1, h2, h3, h4, h5⟩ := h
  have H4 := hide h4
  have H5 := hide h5
  clear h4 h5
  subst h1
  obtain ⟨R, hR⟩ : ∃ R, chkB f es = R := ⟨_, rfl⟩
  rw [hR]
  have HR := hide hR
  clear hR
  have HK0 := hide ((Kept.refl [] w).alloc (.cells #[.int .u64 (f : Int), .slice ao es.length cap] 34))
  have HG0 := hide (heap_alloc_new w (.cells #[.int .u64 (f : Int), .slice ao es.length cap] 34))
  go_enter Try.func36, Try.ntmps36
  have HL64 := hide (fun h : 64 < es.length => by rw [← unhide HR]; exact chkB_long h : 64 < es.length → R = 2)
  by_cases hE : es.length = 0
  · have hE' : ((es.length : Int) == 0) = true := by rw [hE]; rfl
    have h64 : ¬ (64 : Int) < es.length := by omega
    have HC0 := hide (by unfold cntE; rw [if_neg (by omega), if_pos (Or.inl hE)] : cntE f es.length = 3)
    clear hE
    go_wp2_with fail
    go_loopw [27, 3] (fun t12 t3 wr => ∃ (i : Nat), i ≤ es.length ∧ t12 = .int .i64 i ∧ t3 = .int .i64 ((es.take i).foldl (fun a e => leastE a (chkE e)) (cntE f es.length) : Nat) ∧ Hid ((es.take i).foldl (fun a e => leastE a (chkE e)) (cntE f es.length) ≠ 2) ∧ Hid (Kept [] w wr)) (fun t _ _ => es.length - (intOf t).toNat)
    case atStart => exact ⟨0, Nat.zero_le _, rfl, by rw [List.take_zero, List.foldl_nil, unhide HC0]; rfl, hide (by rw [List.take_zero, List.foldl_nil, unhide HC0]; decide), HK0⟩
    case round =>
      obtain ⟨i, hi, rfl, rfl, HA2, HK⟩ := hrel
      by_cases hlt : i < es.length
      · have hlt' : (i : Int) < es.length := by omega
        obtain ⟨b, off, rfl, hcc⟩ := unhide H5 (by omega)
        have hr := hcc i hlt
        have q0 := (unhide HK).cell (hr 0 _ rfl) (by simp)
        have q1 := (unhide HK).cell (hr 1 _ rfl) (by simp)
        have q2 := (unhide HK).cell (hr 2 _ rfl) (by simp)
        rw [Nat.add_zero] at q0
        have HO := hide ((unhide H4 i hlt).old (unhide HK))
        have HSN := hide (foldl_snoc (fun a e => leastE a (chkE e)) (cntE f es.length) es i hlt)
        have HAT := hide (fun h2 : chkE es[i] = 2 => by rw [← unhide HR]; exact chkB_at i hlt h2 : chkE es[i] = 2 → R = 2)
        have HA3 := hide (fold_tri (es.take i) _ (cntE_tri f es.length))
        clear hcc hr
        generalize kv i = kvi at q1 HO
        generalize vv i = vvi at q2 HO
        generalize es[i] = e at q0 HO HSN HAT
        obtain ⟨a8, m8, c8, rfl, _⟩ := id (unhide HO).key
        obtain ⟨a9, m9, c9, rfl, _⟩ := id (unhide HO).val
        generalize (es.take i).foldl (fun a e => leastE a (chkE e)) (cntE f es.length) = acc at HSN HA2 HA3
        go_wp2_with fail
        have HK1 := hide ((unhide HK).alloc (.cells #[.int .u8 (e.k : Int), .slice a8 m8 c8, .slice a9 m9 c9] 26))
        refine Calls.mono (docCheck_any e _ _ _ ((unhide HO).old ((Kept.refl [] wr).alloc _))) ?_
        rintro r w2 ⟨rfl, k2⟩
        have HK2 := hide ((unhide HK1).trans k2 (by simp))
        clear k2
        have hc3 := chkE_tri e
        generalize chkE e = c at HSN HAT hc3 ⊢
        rcases hc3 with hc3 | hc3 | hc3
        · subst hc3
          rcases (unhide HA3) with h9 | h9 | h9
          · subst h9
            go_wp2
            refine ⟨⟨i + 1, by omega, by go_num, by rw [unhide HSN]; rfl, hide (by rw [unhide HSN]; decide), HK2⟩, ?_⟩
            simp [intOf]; omega
          · exact absurd h9 (unhide HA2)
          · subst h9
            go_wp2
            refine ⟨⟨i + 1, by omega, by go_num, by rw [unhide HSN]; rfl, hide (by rw [unhide HSN]; decide), HK2⟩, ?_⟩
            simp [intOf]; omega
        · subst hc3
          have HR2 := hide (unhide HAT rfl)
          go_wp2
          go_ret
          exact ⟨by rw [unhide HR2]; rfl, unhide HK2⟩
        · subst hc3
          rcases (unhide HA3) with h9 | h9 | h9
          · subst h9
            go_wp2
            refine ⟨⟨i + 1, by omega, by go_num, by rw [unhide HSN]; rfl, hide (by rw [unhide HSN]; decide), HK2⟩, ?_⟩
            simp [intOf]; omega
          · exact absurd h9 (unhide HA2)
          · subst h9
            go_wp2
            refine ⟨⟨i + 1, by omega, by go_num, by rw [unhide HSN]; rfl, hide (by rw [unhide HSN]; decide), HK2⟩, ?_⟩
            simp [intOf]; omega
      · have hlt' : ¬ (i : Int) < es.length := by omega
        have hie : i = es.length := by omega
        subst hie
        go_wp2
        go_ret
        exact ⟨by rw [← unhide HR]; rfl, unhide HK⟩
  · have hE' : ((es.length : Int) == 0) = false := by rw [beq_eq_false_iff_ne]; omega
    go_wp2_with fail
    refine Calls.mono (fits5_any f es.length _ hf (by omega)) ?_
    rintro r w1 ⟨rfl, rfl⟩
    by_cases h64 : 64 < es.length
    · have h64' : (64 : Int) < es.length := by omega
      have HR2 := hide (unhide HL64 h64)
      clear h64 hE
      by_cases hfit : f + es.length < 18446744073709551616
      · rw [decide_eq_true hfit]
        clear hfit
        go_wp2
        go_ret
        exact ⟨by rw [unhide HR2]; rfl, unhide HK0⟩
      · rw [decide_eq_false hfit]
        clear hfit
        go_wp2
        go_ret
        exact ⟨by rw [unhide HR2]; rfl, unhide HK0⟩
    · have h64' : ¬ (64 : Int) < es.length := by omega
      by_cases hfit : f + es.length < 18446744073709551616
      · rw [decide_eq_true hfit]
        have HC0 := hide (by unfold cntE; rw [if_neg (by omega), if_neg (by omega)] : cntE f es.length = 0)
        clear hfit h64 hE
        go_wp2_with fail
        go_loopw [27, 3] (fun t12 t3 wr => ∃ (i : Nat), i ≤ es.length ∧ t12 = .int .i64 i ∧ t3 = .int .i64 ((es.take i).foldl (fun a e => leastE a (chkE e)) (cntE f es.length) : Nat) ∧ Hid ((es.take i).foldl (fun a e => leastE a (chkE e)) (cntE f es.length) ≠ 2) ∧ Hid (Kept [] w wr)) (fun t _ _ => es.length - (intOf t).toNat)
        case atStart => exact ⟨0, Nat.zero_le _, rfl, by rw [List.take_zero, List.foldl_nil, unhide HC0]; rfl, hide (by rw [List.take_zero, List.foldl_nil, unhide HC0]; decide), HK0⟩
        case round =>
          obtain ⟨i, hi, rfl, rfl, HA2, HK⟩ := hrel
          by_cases hlt : i < es.length
          · have hlt' : (i : Int) < es.length := by omega
            obtain ⟨b, off, rfl, hcc⟩ := unhide H5 (by omega)
            have hr := hcc i hlt
            have q0 := (unhide HK).cell (hr 0 _ rfl) (by simp)
            have q1 := (unhide HK).cell (hr 1 _ rfl) (by simp)
            have q2 := (unhide HK).cell (hr 2 _ rfl) (by simp)
            rw [Nat.add_zero] at q0
            have HO := hide ((unhide H4 i hlt).old (unhide HK))
            have HSN := hide (foldl_snoc (fun a e => leastE a (chkE e)) (cntE f es.length) es i hlt)
            have HAT := hide (fun h2 : chkE es[i] = 2 => by rw [← unhide HR]; exact chkB_at i hlt h2 : chkE es[i] = 2 → R = 2)
            have HA3 := hide (fold_tri (es.take i) _ (cntE_tri f es.length))
            clear hcc hr
            generalize kv i = kvi at q1 HO
            generalize vv i = vvi at q2 HO
            generalize es[i] = e at q0 HO HSN HAT
            obtain ⟨a8, m8, c8, rfl, _⟩ := id (unhide HO).key
            obtain ⟨a9, m9, c9, rfl, _⟩ := id (unhide HO).val
            generalize (es.take i).foldl (fun a e => leastE a (chkE e)) (cntE f es.length) = acc at HSN HA2 HA3
            go_wp2_with fail
            have HK1 := hide ((unhide HK).alloc (.cells #[.int .u8 (e.k : Int), .slice a8 m8 c8, .slice a9 m9 c9] 26))
            refine Calls.mono (docCheck_any e _ _ _ ((unhide HO).old ((Kept.refl [] wr).alloc _))) ?_
            rintro r w2 ⟨rfl, k2⟩
            have HK2 := hide ((unhide HK1).trans k2 (by simp))
            clear k2
            have hc3 := chkE_tri e
            generalize chkE e = c at HSN HAT hc3 ⊢
            rcases hc3 with hc3 | hc3 | hc3
            · subst hc3
              rcases (unhide HA3) with h9 | h9 | h9
              · subst h9
                go_wp2
                refine ⟨⟨i + 1, by omega, by go_num, by rw [unhide HSN]; rfl, hide (by rw [unhide HSN]; decide), HK2⟩, ?_⟩
                simp [intOf]; omega
              · exact absurd h9 (unhide HA2)
              · subst h9
                go_wp2
                refine ⟨⟨i + 1, by omega, by go_num, by rw [unhide HSN]; rfl, hide (by rw [unhide HSN]; decide), HK2⟩, ?_⟩
                simp [intOf]; omega
            · subst hc3
              have HR2 := hide (unhide HAT rfl)
              go_wp2
              go_ret
              exact ⟨by rw [unhide HR2]; rfl, unhide HK2⟩
            · subst hc3
              rcases (unhide HA3) with h9 | h9 | h9
              · subst h9
                go_wp2
                refine ⟨⟨i + 1, by omega, by go_num, by rw [unhide HSN]; rfl, hide (by rw [unhide HSN]; decide), HK2⟩, ?_⟩
                simp [intOf]; omega
              · exact absurd h9 (unhide HA2)
              · subst h9
                go_wp2
                refine ⟨⟨i + 1, by omega, by go_num, by rw [unhide HSN]; rfl, hide (by rw [unhide HSN]; decide), HK2⟩, ?_⟩
                simp [intOf]; omega
          · have hlt' : ¬ (i : Int) < es.length := by omega
            have hie : i = es.length := by omega
            subst hie
            go_wp2
            go_ret
            exact ⟨by rw [← unhide HR]; rfl, unhide HK⟩
      · rw [decide_eq_false hfit]
        have HC0 := hide (by unfold cntE; rw [if_neg (by omega), if_pos (by omega)] : cntE f es.length = 3)
        clear hfit h64 hE
        go_wp2_with fail
        go_loopw [27, 3] (fun t12 t3 wr => ∃ (i : Nat), i ≤ es.length ∧ t12 = .int .i64 i ∧ t3 = .int .i64 ((es.take i).foldl (fun a e => leastE a (chkE e)) (cntE f es.length) : Nat) ∧ Hid ((es.take i).foldl (fun a e => leastE a (chkE e)) (cntE f es.length) ≠ 2) ∧ Hid (Kept [] w wr)) (fun t _ _ => es.length - (intOf t).toNat)
        case atStart => exact ⟨0, Nat.zero_le _, rfl, by rw [List.take_zero, List.foldl_nil, unhide HC0]; rfl, hide (by rw [List.take_zero, List.foldl_nil, unhide HC0]; decide), HK0⟩
        case round =>
          obtain ⟨i, hi, rfl, rfl, HA2, HK⟩ := hrel
          by_cases hlt : i < es.length
          · have hlt' : (i : Int) < es.length := by omega
            obtain ⟨b, off, rfl, hcc⟩ := unhide H5 (by omega)
            have hr := hcc i hlt
            have q0 := (unhide HK).cell (hr 0 _ rfl) (by simp)
            have q1 := (unhide HK).cell (hr 1 _ rfl) (by simp)
            have q2 := (unhide HK).cell (hr 2 _ rfl) (by simp)
            rw [Nat.add_zero] at q0
            have HO := hide ((unhide H4 i hlt).old (unhide HK))
            have HSN := hide (foldl_snoc (fun a e => leastE a (chkE e)) (cntE f es.length) es i hlt)
            have HAT := hide (fun h2 : chkE es[i] = 2 => by rw [← unhide HR]; exact chkB_at i hlt h2 : chkE es[i] = 2 → R = 2)
            have HA3 := hide (fold_tri (es.take i) _ (cntE_tri f es.length))
            clear hcc hr
            generalize kv i = kvi at q1 HO
            generalize vv i = vvi at q2 HO
            generalize es[i] = e at q0 HO HSN HAT
            obtain ⟨a8, m8, c8, rfl, _⟩ := id (unhide HO).key
            obtain ⟨a9, m9, c9, rfl, _⟩ := id (unhide HO).val
            generalize (es.take i).foldl (fun a e => leastE a (chkE e)) (cntE f es.length) = acc at HSN HA2 HA3
            go_wp2_with fail
            have HK1 := hide ((unhide HK).alloc (.cells #[.int .u8 (e.k : Int), .slice a8 m8 c8, .slice a9 m9 c9] 26))
            refine Calls.mono (docCheck_any e _ _ _ ((unhide HO).old ((Kept.refl [] wr).alloc _))) ?_
            rintro r w2 ⟨rfl, k2⟩
            have HK2 := hide ((unhide HK1).trans k2 (by simp))
            clear k2
            have hc3 := chkE_tri e
            generalize chkE e = c at HSN HAT hc3 ⊢
            rcases hc3 with hc3 | hc3 | hc3
            · subst hc3
              rcases (unhide HA3) with h9 | h9 | h9
              · subst h9
                go_wp2
                refine ⟨⟨i + 1, by omega, by go_num, by rw [unhide HSN]; rfl, hide (by rw [unhide HSN]; decide), HK2⟩, ?_⟩
                simp [intOf]; omega
              · exact absurd h9 (unhide HA2)
              · subst h9
                go_wp2
                refine ⟨⟨i + 1, by omega, by go_num, by rw [unhide HSN]; rfl, hide (by rw [unhide HSN]; decide), HK2⟩, ?_⟩
                simp [intOf]; omega
            · subst hc3
              have HR2 := hide (unhide HAT rfl)
              go_wp2
              go_ret
              exact ⟨by rw [unhide HR2]; rfl, unhide HK2⟩
            · subst hc3
              rcases (unhide HA3) with h9 | h9 | h9
              · subst h9
                go_wp2
                refine ⟨⟨i + 1, by omega, by go_num, by rw [unhide HSN]; rfl, hide (by rw [unhide HSN]; decide), HK2⟩, ?_⟩
                simp [intOf]; omega
              · exact absurd h9 (unhide HA2)
              · subst h9
                go_wp2
                refine ⟨⟨i + 1, by omega, by go_num, by rw [unhide HSN]; rfl, hide (by rw [unhide HSN]; decide), HK2⟩, ?_⟩
                simp [intOf]; omega
          · have hlt' : ¬ (i : Int) < es.length := by omega
            have hie : i = es.length := by omega
            subst hie
            go_wp2
            go_ret
            exact ⟨by rw [← unhide HR]; rfl, unhide HK⟩

set_option maxRecDepth 100000 in
set_option maxHeartbeats 2000000 in
theorem docEncodeBatch_any (f : Nat) (v : Value) (es : List En) (w : World) (hf : f < 18446744073709551616) (h : RdN w v es) (hl : es.length ≤ 1048576) :
    Calls Try.prog 14 #[.agg #[.int .u64 f, v]] w fun r w' => ∃ v', r = .returned (.tuple #[v', .int .i64 (chkB f es)]) ∧ Rd w' v' (if chkB f es = 0 then batB f es else []) ∧ Kept [] w w' := by
  have H := hide h
  have HLE := hide (fun h0 : chkB f es = 0 => chkB_zero h0)
  obtain ⟨E, hE⟩ : ∃ E, chkB f es = E := ⟨_, rfl⟩
  rw [hE] at HLE ⊢
  have HE := hide hE
  clear hE
  obtain ⟨B, hB⟩ : ∃ B, (if E = 0 then batB f es else []) = B := ⟨_, rfl⟩
  rw [hB]
  have HB := hide hB
  clear hB
  obtain ⟨ao, len, cap, kv, vv, rfl, h1, h2, h3, h4, h5⟩ := h
  have H4 := hide h4
  have H5 := hide h5
  clear h4 h5
  subst h1
  have HK0 := hide ((Kept.refl [] w).alloc (.cells #[.int .u64 (f : Int), .slice ao es.length cap] 34))
  have HG0 := hide (heap_alloc_new w (.cells #[.int .u64 (f : Int), .slice ao es.length cap] 34))
  go_enter Try.func14, Try.ntmps14
  go_wp2_with fail
  have hc := docCheckBatch_any f (.slice ao es.length cap) es _ hf ((unhide H).old (unhide HK0)) hl
  rw [unhide HE] at hc
  refine Calls.mono hc ?_
  clear hc
  rintro r w1 ⟨rfl, k1⟩
  have HG1 := hide (k1.heap (unhide HG0) (by simp))
  have HK1 := hide ((unhide HK0).trans k1 (by simp))
  clear k1
  by_cases h0 : E = 0
  · have hb0 : ((E : Int) != 0) = false := by rw [h0]; rfl
    obtain ⟨hl1, hl2, hl3, hl4⟩ := unhide HLE h0
    have HL4 := hide hl4
    have HB2 := hide (by rw [← unhide HB, if_pos h0] : B = batB f es)
    have H0 := hide h0
    clear h0 hl4
    have x0 : w1.cell? ⟨w.heap.size, 0, none⟩ = some (.int .u64 (f : Int)) := by rw [cell_of_row _ _ _ _ _ _ (unhide HG1)]; rfl
    have x1 : w1.cell? ⟨w.heap.size, 1, none⟩ = some (.slice ao es.length cap) := by rw [cell_of_row _ _ _ _ _ _ (unhide HG1)]; rfl
    have HX0 := hide x0
    have HX1 := hide x1
    have HU1 := hide (uv_len f hf)
    have HU2 := hide (uv_len es.length (by omega))
    have hcv : IntKind.u64.wrap (es.length : Int) = es.length := by simp [IntKind.wrap, IntKind.signed, IntKind.bits]; omega
    have hnn : (0 : Int) ≤ es.length := by omega
    go_wp2_with fail
    go_region_held3 (fun w' => w'.cell? ⟨w.heap.size, 0, none⟩ = some (.int .u64 (f : Int)) ∧ w'.cell? ⟨w.heap.size, 1, none⟩ = some (.slice ao es.length cap)) (go_keep) (first
      | (go_at_call 38; with_reducible refine (refUvar_any f w1.drew hf).mono ?_; rintro e w3 ⟨v3, rfl, r3, k3, _⟩; have HR3 := hide r3; have K3 := (Kept.refl [] w1).drew.trans k3 (by simp); have HK3 := hide K3; have y0 := K3.cell (unhide HX0) (by simp); have y1 := K3.cell (unhide HX1) (by simp); clear K3 k3 r3)
      | (go_at_call 38; with_reducible refine (refUvar_any es.length w3 (by omega)).mono ?_; rintro e w4 ⟨v4, rfl, r4, k4, _⟩; have HR4 := hide r4; have HJ4 := hide ((unhide HR3).old k4 (by simp)); have HK4 := hide ((unhide HK3).trans k4 (by simp)); have z0 := k4.cell y0 (by simp); have z1 := k4.cell y1 (by simp); clear k4 r4)
      | (go_at_call 37; refine (join_any _ _ (uv f) (uv es.length) _ (by exact unhide HJ4) (by exact unhide HR4) (by have := unhide HU1; have := unhide HU2; omega)).mono ?_; rintro e w5 ⟨v5, rfl, r5, k5, _⟩; have HR5 := hide r5; have HK5 := hide ((unhide HK4).trans k5 (by simp)); have j0 := k5.cell z0 (by simp); have j1 := k5.cell z1 (by simp); clear k5 r5))
    all_goals
      go_wp2_with fail
      go_loopw [25, 5] (fun t12 t5 wr => ∃ (i : Nat), i ≤ es.length ∧ t12 = .int .i64 i ∧ Hid (Rd wr t5 (uv f ++ uv es.length ++ entB (es.take i))) ∧ Hid (Kept [] w wr)) (fun t _ _ => es.length - (intOf t).toNat)
      case atStart => exact ⟨0, Nat.zero_le _, rfl, by simpa [entB] using HR5, hide ((unhide HK1).trans (unhide HK5) (by simp))⟩
      case round =>
        obtain ⟨i, hi, rfl, HP, HK⟩ := hrel
        have HLI := hide (by have h9 := entB_len (es.take i) (fun e he => unhide HL4 e (List.mem_of_mem_take he)); rw [List.length_take] at h9; omega : (entB (es.take i)).length ≤ 25600)
        by_cases hlt : i < es.length
        · have hlt' : (i : Int) < es.length := by omega
          obtain ⟨b, off, rfl, hcc⟩ := unhide H5 (by omega)
          have hr := hcc i hlt
          have q0 := (unhide HK).cell (hr 0 _ rfl) (by simp)
          have q1 := (unhide HK).cell (hr 1 _ rfl) (by simp)
          have q2 := (unhide HK).cell (hr 2 _ rfl) (by simp)
          rw [Nat.add_zero] at q0
          have HO := hide ((unhide H4 i hlt).old (unhide HK))
          have HSN := hide (entB_snoc es i hlt)
          have HCE := hide (chkE_zero (unhide HL4 es[i] (List.getElem_mem hlt)))
          have HBL := hide (enB_len (unhide HL4 es[i] (List.getElem_mem hlt)))
          clear hcc hr
          generalize kv i = kvi at q1 HO
          generalize vv i = vvi at q2 HO
          generalize es[i] = e at q0 HO HSN HCE HBL
          obtain ⟨a8, m8, c8, rfl, _⟩ := id (unhide HO).key
          obtain ⟨a9, m9, c9, rfl, _⟩ := id (unhide HO).val
          have k1 := (Kept.refl [] wr).alloc (.cells #[.int .u8 (e.k : Int), .slice a8 m8 c8, .slice a9 m9 c9] 26)
          have HKA := hide ((unhide HK).trans k1 (by simp))
          have HPA := hide ((unhide HP).old k1 (by simp))
          have HOA := hide ((unhide HO).old k1)
          clear k1
          go_wp2_with fail
          refine Calls.mono (refBytes_any e _ _ _ (unhide HOA) (by have := unhide HCE; omega)) ?_
          rintro r w7 ⟨v7, rfl, r7, k7⟩
          have HR7 := hide r7
          have HP7 := hide ((unhide HPA).old k7 (by simp))
          have HK7 := hide ((unhide HKA).trans k7 (by simp))
          clear r7 k7
          go_wp2_with fail
          refine Calls.mono (join_any _ _ _ _ _ (unhide HP7) (unhide HR7) (by have := unhide HLI; have := unhide HU1; have := unhide HU2; have := unhide HBL; simp only [List.length_append]; omega)) ?_
          rintro r w8 ⟨v8, rfl, r8, k8, _⟩
          rw [List.append_assoc, ← unhide HSN] at r8
          have HR8 := hide r8
          have HK8 := hide ((unhide HK7).trans k8 (by simp))
          clear r8 k8
          go_wp2
          refine ⟨⟨i + 1, by omega, by go_num, HR8, HK8⟩, ?_⟩
          simp [intOf]; omega
        · have hlt' : ¬ (i : Int) < es.length := by omega
          have hie : i = es.length := by omega
          subst hie
          rw [List.take_length] at HP
          go_wp2
          go_ret2
          refine ⟨_, by rw [unhide H0]; rfl, ?_, unhide HK⟩
          rw [unhide HB2]
          have h9 := unhide HP
          rw [List.append_assoc] at h9
          exact h9
  · have hb0 : ((E : Int) != 0) = true := by rw [bne_iff_ne]; omega
    have HB2 := hide (by rw [← unhide HB, if_neg h0] : B = [])
    clear h0
    go_wp2
    go_ret2
    exact ⟨_, rfl, by rw [unhide HB2]; exact Rd.nil _, unhide HK1⟩
end Go.Proofs.Ytocpfbcbfgbdoaa
