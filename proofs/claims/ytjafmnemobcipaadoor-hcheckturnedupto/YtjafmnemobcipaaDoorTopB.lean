import Derived.Test.YtjafmnemobcipaaDoorTopA
import Derived.Test.YtjafmnemobcipaaDoorQKeep
import Derived.Deep.RegionHeld3
import Derived.Test.YtjafmnemobcipaaDoorRowz
namespace Go.Proofs.YtjafmnemobcipaaDoor
open Go.RowKit Go.BigFrame
set_option linter.unusedVariables false
set_option linter.unusedSimpArgs false

theorem run_bytesOf {P : Program} {w : World} {v : Value} {a : List Nat} (h : Rd w v a) : ∃ r : ByteArray, (Extern.Bytes.bytesOf v).run P w = .ok r w ∧ r.data.toList = a.map b8 := by
  obtain ⟨ao, n, c, rfl, h1, h2, h3, h4, _, h5⟩ := h
  subst h1
  cases ao with
  | none =>
    have h0 : a = [] := List.eq_nil_of_length_eq_zero (by have := h4 rfl; omega)
    subst h0
    exact ⟨.empty, rfl, rfl⟩
  | some p =>
    rcases Nat.eq_zero_or_pos a.length with h0 | h0
    · have h0' : a = [] := List.eq_nil_of_length_eq_zero h0
      subst h0'
      exact ⟨.empty, rfl, rfl⟩
    · obtain ⟨b, off, he, hc⟩ := h5 h0
      cases he
      obtain ⟨r, hr, e⟩ := run_loadBytes (P := P) (w := w) (g := b) a off .empty hc
      exact ⟨r, hr, by rw [e]; simp⟩
theorem run_cmpR {P : Program} {w : World} {u v : Value} {a b : List Nat} (ha : Rd w u a) (hb : Rd w v b) : (Extern.BytealgCompare.compare #[u, v]).run P w = .ok (.int .i64 (ordL a b)) w := by
  obtain ⟨r, hr, he⟩ := run_bytesOf (P := P) ha
  obtain ⟨r', hr', he'⟩ := run_bytesOf (P := P) hb
  change Sem.run P (do pure (goInt (Extern.BytealgCompare.cmp (← Extern.Bytes.bytesOf u) (← Extern.Bytes.bytesOf v)))) w = _
  simp only [Sem.run_bind, hr, hr', Sem.run_pure, Result.andThen]
  rw [Lib.cmp_eq, he, he']
  show Result.ok (goInt (Lib.compareBytes (a.map b8) (b.map b8))) w = _
  rw [cmp_ord a b ha.byte hb.byte]
  rfl

set_option maxRecDepth 100000 in
set_option maxHeartbeats 1000000 in
theorem bcmp_any (u v : Value) (a b : List Nat) (w : World) (ha : Rd w u a) (hb : Rd w v b) :
    Calls Tryd.prog 63 #[u, v] w fun e w' => e = .returned (.int .i64 (ordL a b)) ∧ w' = w := by
  obtain ⟨ao, n, c, rfl, h1, _, _, h4, h5, _⟩ := id ha
  obtain ⟨bo, m, d, rfl, g1, _, _, g4, g5, _⟩ := id hb
  have HC := hide (fun (P : Program) => run_cmpR (P := P) ha hb)
  clear ha hb h4 g4 h5 g5
  go_enter Tryd.func63, Tryd.ntmps63
  go_wp2
  rw [run_callFunc_extern Tryd.func78 (by kernel_rfl) (by kernel_rfl) (by kernel_rfl) (e := Extern.BytealgCompare.compare) (by kernel_rfl), unhide HC]
  simp only [Result.andThen]
  rw [Oper.upon_value]
  go_wp2
  go_ret
  exact ⟨rfl, rfl⟩

theorem risB_down {ps : List (List Nat × List Nat)} {i : Nat} : ∀ (n : Nat), i ≤ n → risB ps i = false → risB ps n = false
  | 0, h, hi => by obtain rfl : i = 0 := by omega
                   exact hi
  | n + 1, h, hi => by
    rcases Nat.lt_or_ge n i with h9 | h9
    · obtain rfl : i = n + 1 := by omega
      exact hi
    · rw [risB, risB_down n h9 hi]; rfl
theorem ordL_bnd : ∀ a b : List Nat, -1 ≤ ordL a b ∧ ordL a b ≤ 1
  | [], [] => by simp [ordL]
  | [], _ :: _ => by simp [ordL]
  | _ :: _, [] => by simp [ordL]
  | x :: a, y :: b => by
    have := ordL_bnd a b
    simp only [ordL]
    split
    · omega
    · split
      · omega
      · exact this

set_option maxRecDepth 100000 in
set_option maxHeartbeats 1000000 in
theorem rising_any (pv : Value) (ps : List (List Nat × List Nat)) (w : World) (hp : RdK w pv ps) :
    Calls Tryd.prog 34 #[pv] w fun e w' => e = .returned (.bool (risB ps ps.length)) ∧ Kept [] w w' := by
  obtain ⟨ao, n, c, _, _, rfl, _⟩ := id hp
  obtain ⟨h1, h2, h3, h4⟩ := hp.cells
  have H4 := hide h4
  clear h4 hp
  subst h1
  go_enter Tryd.func34, Tryd.ntmps34
  go_wp2_with fail
  go_loopw [7] (fun t7 wr => ∃ (i : Nat), i ≤ ps.length ∧ t7 = .int .i64 i ∧ Hid (risB ps i = true) ∧ Hid (Kept [] w wr)) (fun t _ => ps.length - (intOf t).toNat)
  case atStart => exact ⟨0, Nat.zero_le _, rfl, hide rfl, hide (Kept.refl _ _)⟩
  case round =>
    obtain ⟨i, hi, rfl, HA, HK⟩ := hrel
    by_cases hlt : i < ps.length
    · have hlt' : (i : Int) < ps.length := by omega
      obtain ⟨b, o, x, y, rfl, c1, c2, r1, r2⟩ := unhide H4 i hlt
      have HPR := hide (fun (h : 0 < i) => unhide H4 (i - 1) (by omega))
      have q1 := (unhide HK).cell c1 (by simp)
      have q2 := (unhide HK).cell c2 (by simp)
      have HX := hide (r1.old (unhide HK) (by simp))
      have HY := hide (r2.old (unhide HK) (by simp))
      have HST := hide (by rw [risB, unhide HA, Bool.true_and] : risB ps (i + 1) = (decide ((ps.getD i ([], [])).1.length ≤ 64) && (decide ((ps.getD i ([], [])).2.length ≤ 256) && (decide (i = 0) || decide (ordL (ps.getD (i - 1) ([], [])).1 (ps.getD i ([], [])).1 < 0)))))
      clear c1 c2 r1 r2
      generalize ps.getD i ([], []) = pi at HX HY HST
      obtain ⟨pk, pw⟩ := pi
      simp only at HX HY HST
      have HBAD := hide (fun (h : risB ps (i + 1) = false) => risB_down (ps := ps) ps.length hlt h)
      obtain ⟨a8, m8, c8, rfl, hm8, _⟩ := id (unhide HX)
      obtain ⟨a9, m9, c9, rfl, hm9, _⟩ := id (unhide HY)
      subst hm8
      subst hm9
      have HKa := hide ((Kept.refl [] wr).alloc (.cells #[.slice a8 pk.length c8, .slice a9 pw.length c9] 64))
      have HKb := hide ((unhide HK).trans (unhide HKa) (by simp))
      by_cases hk : 64 < pk.length
      · have hk' : (64 : Int) < pk.length := by omega
        have HB := hide (unhide HBAD (by rw [unhide HST, decide_eq_false (by omega)]; rfl))
        go_wp2
        go_ret
        exact ⟨by rw [unhide HB]; rfl, unhide HKb⟩
      · have hk' : ¬ (64 : Int) < pk.length := by omega
        by_cases hv : 256 < pw.length
        · have hv' : (256 : Int) < pw.length := by omega
          have HB := hide (unhide HBAD (by rw [unhide HST, decide_eq_true (by omega), decide_eq_false (by omega)]; rfl))
          go_wp2
          go_ret
          exact ⟨by rw [unhide HB]; rfl, unhide HKb⟩
        · have hv' : ¬ (256 : Int) < pw.length := by omega
          have HST2 := hide (by rw [unhide HST, decide_eq_true (by omega), decide_eq_true (by omega)]; rfl : risB ps (i + 1) = (decide (i = 0) || decide (ordL (ps.getD (i - 1) ([], [])).1 pk < 0)))
          clear HST
          by_cases h0 : i = 0
          · have h0' : ¬ (0 : Int) < i := by omega
            have hi0 : ¬ 0 < i := by omega
            have HN := hide (by rw [unhide HST2, decide_eq_true h0]; rfl : risB ps (i + 1) = true)
            clear HST2 HBAD HPR h0
            go_wp2_with fail
            refine wp_quiet_tail 11 (by kernel_rfl) (by kernel_rfl) ?_
            simp only [List.take_succ_cons, List.take_zero, List.drop_succ_cons, List.drop_zero]
            repeat (go_big_quiet_step (fail))
            refine wpQuiet_nil ?_
            rintro _ ⟨n1, rfl⟩
            go_wp2
            refine ⟨⟨i + 1, hlt, by go_num, HN, hide ((unhide HKb).drewN n1)⟩, ?_⟩
            simp [intOf]; omega
          · have h0' : (0 : Int) < i := by omega
            have hi0 : 0 < i := by omega
            obtain ⟨_, _, x', y', he, c1, c2, r1, r2⟩ := unhide HPR (by omega)
            cases he
            have HST3 := hide (by rw [unhide HST2, decide_eq_false h0]; rfl : risB ps (i + 1) = decide (ordL (ps.getD (i - 1) ([], [])).1 pk < 0))
            have q3 := ((unhide HKb)).cell c1 (by simp)
            have HX' := hide (r1.old (unhide HKb) (by simp))
            clear HST2 HPR c1 c2 r1 r2
            generalize (ps.getD (i - 1) ([], [])).1 = pp at HST3 HX'
            have hsub : ((i : Int) - 1) = ((i - 1 : Nat) : Int) := by omega
            obtain ⟨k, hk9⟩ : ∃ k, i - 1 = k := ⟨_, rfl⟩
            rw [hk9] at q3 hsub
            have hkl : (k : Int) < ps.length := by omega
            obtain ⟨a7, m7, c7, rfl, hm7, _⟩ := id (unhide HX')
            subst hm7
            have HI := hide (by omega : ¬ i = 0)
            clear h0 hk9
            have c8' := cell_of_row _ wr.heap.size 0 _ _ _ (heap_alloc_new wr (.cells #[.slice a8 pk.length c8, .slice a9 pw.length c9] 64))
            go_wp2_with fail
            refine wp_quiet_tail 11 (by kernel_rfl) (by kernel_rfl) ?_
            simp only [List.take_succ_cons, List.take_zero, List.drop_succ_cons, List.drop_zero]
            repeat (go_big_quiet_step (fail))
            refine wpQuiet_nil ?_
            rintro _ ⟨n1, rfl⟩
            go_wp2_with fail
            refine Calls.mono (bcmp_any _ _ pp pk _ ((unhide HX').old ((Kept.refl [] _).drewN n1) (by simp)) ((unhide HX).old ((unhide HKa).drewN n1) (by simp))) ?_
            rintro e w1 ⟨rfl, rfl⟩
            have hob := ordL_bnd pp pk
            generalize ordL pp pk = C at HST3 hob ⊢
            clear q1 q2 q3 hsub hkl c8'
            by_cases hC : C < 0
            · have hC' : ¬ (0 : Int) ≤ C := by omega
              have HN := hide (by rw [unhide HST3, decide_eq_true hC] : risB ps (i + 1) = true)
              clear hC
              go_wp2
              refine ⟨⟨i + 1, hlt, by go_num, HN, hide ((unhide HKb).drewN n1)⟩, ?_⟩
              simp [intOf]; omega
            · have hC' : (0 : Int) ≤ C := by omega
              have HB := hide (unhide HBAD (by rw [unhide HST3, decide_eq_false hC]))
              clear hC
              go_wp2
              go_ret
              exact ⟨by rw [unhide HB]; rfl, (unhide HKb).drewN n1⟩
    · have hi' : i = ps.length := by omega
      subst hi'
      go_wp2
      go_ret
      exact ⟨by rw [unhide HA]; rfl, unhide HK⟩
end Go.Proofs.YtjafmnemobcipaaDoor
namespace Go.Proofs.YtjafmnemobcipaaDoor
open Go.RowKit Go.BigFrame
set_option linter.unusedVariables false
set_option linter.unusedSimpArgs false

theorem RdK.tail {w : World} {b off n c : Nat} {ps : List (List Nat × List Nat)} (h : RdK w (.slice (some ⟨b, off, none⟩) n c) ps) (hp : 0 < n) : RdK w (.slice (some ⟨b, off + 2, none⟩) (n - 1) (c - 1)) (ps.drop 1) := by
  obtain ⟨_, _, _, vs, us, he, h1, h2, h3, h4, h5⟩ := h
  cases he
  refine ⟨_, n - 1, c - 1, vs.drop 1, us.drop 1, rfl, by simp [h1], by omega, by omega, fun i hi => ?_, fun _ => ⟨b, off + 2, rfl, fun i hi => ?_⟩⟩
  · have := h4 (i + 1) (by omega)
    simpa [List.getD_eq_getElem?_getD, Nat.add_comm] using this
  · obtain ⟨b', o', e, hc⟩ := h5 hp
    cases e
    have := hc (i + 1) (by omega)
    rw [show off + (i + 1) * 2 = off + 2 + i * 2 by omega] at this
    simpa [List.getD_eq_getElem?_getD, Nat.add_comm] using this

set_option maxRecDepth 100000 in
set_option maxHeartbeats 1000000 in
theorem hang_any (z : Int) (ks : List Nat) (n : Nat) (pv : Value) (ps : List (List Nat × List Nat)) (w : World) (hz : -9223372036854775808 ≤ z ∧ z ≤ 9223372036854775807) (hks : Dg ks) (hn : n ≤ 1000000000000) (hp : RdK w pv ps) (hp0 : 0 < ps.length) (hT : Tabs w) (hl : ∀ p ∈ ps, p.1.length ≤ 64) :
    Calls Tryd.prog 35 #[.int .i64 z, .agg (brow ks), .int .i64 n, pv] w fun e w' => e = .returned (.bool (hanB z ks n ps)) ∧ Kept [] w w' := by
  obtain ⟨ao, m, c, _, _, rfl, _⟩ := id hp
  obtain ⟨h1, h2, h3, h4⟩ := hp.cells
  obtain ⟨b, o, x, y, rfl, c1, c2, r1, r2⟩ := h4 0 (by omega)
  have HTL : Hid (RdK w (if c = 1 then .slice (some ⟨b, o, none⟩) (m - 1) 0 else .slice (some ⟨b, o + 2, none⟩) (m - 1) (c - 1)) (ps.drop 1)) := hide (by
    by_cases hc9 : c = 1
    · rw [if_pos hc9]
      have h9 : ps.drop 1 = [] := by rw [List.drop_eq_nil_iff]; omega
      rw [h9, show m - 1 = 0 by omega]
      exact ⟨_, 0, 0, [], [], rfl, rfl, Nat.le_refl _, by omega, fun i hi => by omega, fun hh => by omega⟩
    · rw [if_neg hc9]; exact hp.tail (by omega))
  have HX := hide r1
  have HT := hide hT
  have HKS := hide hks
  have hkl := hks.1
  have HL0 := hide (hl _ (by rw [List.getD_eq_getElem?_getD, List.getElem?_eq_getElem hp0]; exact List.getElem_mem hp0) : (ps.getD 0 ([], [])).1.length ≤ 64)
  have HLT := hide (fun p (h : p ∈ ps.drop 1) => hl p (List.mem_of_mem_drop h))
  have HF := hide (by unfold hanB; rfl : hanB z ks n ps = ((ps.drop 1).all (fun p => decide (keyS z p.1 = keyS z (ps.getD 0 ([], [])).1)) && decide (n ≤ comC z (keyS z (ps.getD 0 ([], [])).1) ks)))
  have HK0 := hide ((Kept.refl [] w).alloc (.cells (brow ks) 29))
  have HG0 := hide (heap_alloc_new w (.cells (brow ks) 29))
  have q1 := (unhide HK0).cell c1 (by simp)
  rw [Nat.zero_mul, Nat.add_zero] at q1
  clear h4 hp c1 c2 r1 r2 hT hks hl
  subst h1
  have hp0' : (0 : Int) < ps.length := by omega
  have hp1 : (1 : Int) ≤ ps.length := by omega
  have hp2 : 1 ≤ ps.length := by omega
  have hc1 : (1 : Int) ≤ c := by omega
  generalize (ps.getD 0 ([], [])).1 = k0 at HX HL0 HF
  obtain ⟨a8, m8, c8, rfl, hm8, _⟩ := id (unhide HX)
  subst hm8
  go_enter Tryd.func35, Tryd.ntmps35
  go_wp2_with fail
  refine Calls.mono (key_all z _ k0 _ hz ((unhide HX).old (unhide HK0) (by simp)) (by have := unhide HL0; omega) ((unhide HT).k (unhide HK0))) ?_
  rintro e w1 ⟨rfl, k1⟩
  have HD0 := hide (keyS_dg z k0)
  have HDE : keyS z k0 = sumD z (2 :: k0) := rfl
  rw [← HDE]
  clear HDE
  generalize keyS z k0 = D0 at HD0 HF ⊢
  have hd0 := (unhide HD0).1
  have kN := (k1.alloc (.cells (zb 32) 29)).setRow (g := w1.heap.size) (Or.inr k1.size) (brow D0)
  have HN1 := hide (setRow_heap (w1.alloc (.cells (zb 32) 29)) w1.heap.size (zb 32) (brow D0) 29 (0, 0) (heap_alloc_new _ _))
  have HK1 := hide ((unhide HK0).trans kN (by simp))
  have HG1 := hide (kN.heap (unhide HG0) (by simp))
  have HS0 := hide (Tryd.szD hd0)
  have HSK := hide (Tryd.szD hkl)
  clear kN k1 q1 HK0 HG0
  generalize ps.drop 1 = tl at HTL HLT HF
  obtain hc9 | hc9 : c = 1 ∨ ¬ c = 1 := by omega
  case' inl =>
    rw [if_pos hc9] at HTL
    subst hc9
    go_wp2_with (rw [zb32]; refine wpList_store_row rfl 29 _ _ rfl w1.heap.size (brow D0) rfl rfl _ (zb 32) (heap_alloc_new _ _) (unhide HS0) (by rw [zb_size, brow_size, hd0]) (brow_one _) ?_)
    have t0 : tl.length = 0 := by have := (unhide HTL).cells.1; omega
    have htb : tl.length ≤ 9223372036854775806 := by omega
    have H4 : Hid (∀ i, i < tl.length → ∃ b' off u v, (some (⟨b, o, none⟩ : Addr)) = some ⟨b', off, none⟩ ∧ w.cell? ⟨b', off + i * 2, none⟩ = some u ∧ w.cell? ⟨b', off + i * 2 + 1, none⟩ = some v ∧ Rd w u (tl.getD i ([], [])).1 ∧ Rd w v (tl.getD i ([], [])).2) := hide (fun i hi => by omega)
    clear HTL hc1 hp1 hp2 hp0' hp0
  case' inr =>
    rw [if_neg hc9] at HTL
    go_wp2_with (rw [zb32]; refine wpList_store_row rfl 29 _ _ rfl w1.heap.size (brow D0) rfl rfl _ (zb 32) (heap_alloc_new _ _) (unhide HS0) (by rw [zb_size, brow_size, hd0]) (brow_one _) ?_)
    obtain ⟨t1, t2, t3, t4⟩ := (unhide HTL).cells
    have H4 := hide t4
    have htb : tl.length ≤ 9223372036854775806 := by omega
    clear t4 HTL hc1 hp1 hp2 hp0' hp0 t2 t3 hc9
    generalize ps.length - 1 = N9 at t1 H4 ⊢
    subst t1
  all_goals
    obtain ⟨W, hW⟩ : ∃ W, (w1.alloc (.cells (zb 32) 29)).setRow w1.heap.size (brow D0) = W := ⟨_, rfl⟩
    rw [hW] at HN1 HK1 HG1 ⊢
    clear hW
    go_loopw [29] (fun t29 wr => ∃ (i : Nat), i ≤ tl.length ∧ t29 = .int .i64 i ∧ Hid ((tl.take i).all (fun p => decide (keyS z p.1 = D0)) = true) ∧ Hid (Kept [] w wr) ∧ Hid (wr.heap[w1.heap.size]? = some (.cells (brow D0) 29 (0, 0))) ∧ Hid (wr.heap[w.heap.size]? = some (.cells (brow ks) 29 (0, 0)))) (fun t _ => tl.length - (intOf t).toNat)
    case atStart => exact ⟨0, Nat.zero_le _, rfl, hide (by simp), HK1, HN1, HG1⟩
    case round =>
      obtain ⟨i, hi, rfl, HA, HK, HN, HG⟩ := hrel
      by_cases hlt : i < tl.length
      · first
        | (exfalso; omega)
        | (have hlt' : (i : Int) < tl.length := by omega
           obtain ⟨b', o', x', y', he, c1, c2, r1, r2⟩ := unhide H4 i hlt
           cases he
           have q1 := (unhide HK).cell c1 (by simp)
           have q2 := (unhide HK).cell c2 (by simp)
           have HX1 := hide (r1.old (unhide HK) (by simp))
           have HY1 := hide (r2.old (unhide HK) (by simp))
           have HLI := hide (unhide HLT (tl.getD i ([], [])) (by rw [List.getD_eq_getElem?_getD, List.getElem?_eq_getElem hlt]; exact List.getElem_mem hlt))
           have HNX := hide (by rw [List.take_succ_eq_append_getElem hlt, List.all_append, unhide HA, List.getD_eq_getElem?_getD, List.getElem?_eq_getElem hlt]; simp : (tl.take (i + 1)).all (fun p => decide (keyS z p.1 = D0)) = decide (keyS z (tl.getD i ([], [])).1 = D0))
           have HM := hide (fun (h : ¬ keyS z (tl.getD i ([], [])).1 = D0) => by
             have h9 : tl.all (fun p => decide (keyS z p.1 = D0)) = false := by
               rw [List.all_eq_false]
               exact ⟨tl.getD i ([], []), by rw [List.getD_eq_getElem?_getD, List.getElem?_eq_getElem hlt]; exact List.getElem_mem hlt, by rw [decide_eq_false h]; decide⟩
             rw [unhide HF, h9]; rfl : ¬ keyS z (tl.getD i ([], [])).1 = D0 → hanB z ks n ps = false)
           clear c1 c2 r1 r2
           generalize tl.getD i ([], []) = pi at HX1 HY1 HLI HNX HM
           obtain ⟨pk, pw⟩ := pi
           simp only at HX1 HY1 HLI HNX HM
           obtain ⟨a7, m7, c7, rfl, hm7, _⟩ := id (unhide HX1)
           obtain ⟨a9, m9, c9, rfl, hm9, _⟩ := id (unhide HY1)
           subst hm7
           subst hm9
           have HKa := hide ((Kept.refl [] wr).alloc (.cells #[.slice a7 pk.length c7, .slice a9 pw.length c9] 64))
           go_wp2_with fail
           refine Calls.mono (key_all z _ pk _ hz ((unhide HX1).old (unhide HKa) (by simp)) (by have := unhide HLI; omega) ((unhide HT).k ((unhide HK).trans (unhide HKa) (by simp)))) ?_
           rintro e w2 ⟨rfl, k2⟩
           have HDK := hide (keyS_dg z pk)
           have HDE : keyS z pk = sumD z (2 :: pk) := rfl
           rw [← HDE]
           clear HDE
           generalize keyS z pk = DK at HDK HNX HM ⊢
           have hdk := (unhide HDK).1
           have kN := (((unhide HKa).trans k2 (by simp)).alloc (.cells (zb 32) 29)).setRow (g := w2.heap.size) (Or.inr ((unhide HKa).trans k2 (by simp)).size) (brow DK)
           have HN2 := hide (setRow_heap (w2.alloc (.cells (zb 32) 29)) w2.heap.size (zb 32) (brow DK) 29 (0, 0) (heap_alloc_new _ _))
           have HK2 := hide ((unhide HK).trans kN (by simp))
           have HD2 := hide (kN.heap (unhide HN) (by simp))
           have HG2 := hide (kN.heap (unhide HG) (by simp))
           have HSD := hide (Tryd.szD hdk)
           clear kN k2 q1 q2
           have heq := fun W => dig_eq W DK D0 hdk hd0
           by_cases hE : DK = D0
           · rw [decide_eq_true hE] at heq HNX
             clear hE
             go_wp2_with (first
               | (rw [zb32]; refine wpList_store_row rfl 29 _ _ rfl w2.heap.size (brow DK) rfl rfl _ (zb 32) (heap_alloc_new _ _) (unhide HSD) (by rw [zb_size, brow_size, hdk]) (brow_one _) ?_)
               | (refine wpList_load_row rfl 29 _ rfl w2.heap.size rfl _ (brow DK) (0, 0) _ (unhide HN2) Tryd.underlying29 rfl (unhide HSD) ?_)
               | (refine wpList_load_row rfl 29 _ rfl w1.heap.size rfl _ (brow D0) (0, 0) _ (unhide HD2) Tryd.underlying29 rfl (unhide HS0) ?_))
             refine ⟨⟨i + 1, hlt, by go_num, HNX, HK2, HD2, HG2⟩, ?_⟩
             simp [intOf]; omega
           · have HB := hide (unhide HM hE)
             rw [decide_eq_false hE] at heq
             clear hE
             go_wp2_with (first
               | (rw [zb32]; refine wpList_store_row rfl 29 _ _ rfl w2.heap.size (brow DK) rfl rfl _ (zb 32) (heap_alloc_new _ _) (unhide HSD) (by rw [zb_size, brow_size, hdk]) (brow_one _) ?_)
               | (refine wpList_load_row rfl 29 _ rfl w2.heap.size rfl _ (brow DK) (0, 0) _ (unhide HN2) Tryd.underlying29 rfl (unhide HSD) ?_)
               | (refine wpList_load_row rfl 29 _ rfl w1.heap.size rfl _ (brow D0) (0, 0) _ (unhide HD2) Tryd.underlying29 rfl (unhide HS0) ?_))
             go_ret
             exact ⟨by rw [unhide HB]; rfl, unhide HK2⟩)
      · have hi' : i = tl.length := by omega
        have HF2 := hide (by have h9 := unhide HA; rw [hi', List.take_length] at h9; rw [unhide HF, h9, Bool.true_and] : hanB z ks n ps = decide (n ≤ comC z D0 ks))
        have hlt' : ¬ (i : Int) < tl.length := by omega
        clear hi'
        go_wp2_with (first
          | (refine wpList_load_row rfl 29 _ rfl w1.heap.size rfl _ (brow D0) (0, 0) _ (unhide HN) Tryd.underlying29 rfl (unhide HS0) ?_)
          | (refine wpList_load_row rfl 29 _ rfl w.heap.size rfl _ (brow ks) (0, 0) _ (unhide HG) Tryd.underlying29 rfl (unhide HSK) ?_))
        refine Calls.mono (common_any z D0 ks _ hz (unhide HD0) (unhide HKS)) ?_
        rintro e w3 ⟨rfl, k3⟩
        have HK3 := hide ((unhide HK).trans k3 (by simp))
        clear k3
        generalize comC z D0 ks = CC at HF2 ⊢
        by_cases hcc : n ≤ CC
        · have hcc' : (n : Int) ≤ CC := by omega
          go_wp2
          go_ret
          exact ⟨by rw [unhide HF2, decide_eq_true hcc]; simp [hcc], unhide HK3⟩
        · have hcc' : ¬ (n : Int) ≤ CC := by omega
          go_wp2
          go_ret
          exact ⟨by rw [unhide HF2, decide_eq_false hcc]; simp [hcc], unhide HK3⟩
end Go.Proofs.YtjafmnemobcipaaDoor
namespace Go.Proofs.YtjafmnemobcipaaDoor
open Go.RowKit Go.BigFrame
set_option linter.unusedVariables false
set_option linter.unusedSimpArgs false

set_option maxRecDepth 100000 in
set_option maxHeartbeats 1000000 in
theorem hdigit_any (z : Int) (d : List Nat) (i : Int) (w : World) (hz : -9223372036854775808 ≤ z ∧ z ≤ 9223372036854775807) (hi : -9223372036854775808 ≤ i ∧ i ≤ 9223372036854775807) (hd : Dg d) :
    Calls Tryd.prog 32 #[.int .i64 z, .agg (brow d), .int .i64 i] w fun e w' => e = .returned (.int .i64 (atC z d i : Int)) ∧ Kept [] w w' := by
  have hdl := hd.1
  have HGA := hide (heap_alloc_new w (.cells (brow d) 29))
  have HK0 := hide ((Kept.refl [] w).alloc (.cells (brow d) 29))
  have HSZ := hide (Tryd.szD hdl)
  go_enter Tryd.func32, Tryd.ntmps32
  go_wp2_with (refine wpList_load_row rfl 29 _ rfl w.heap.size rfl _ (brow d) (0, 0) _ (unhide HGA) Tryd.underlying29 rfl (unhide HSZ) ?_)
  refine Calls.mono (at_any z d i _ hz hi hd) ?_
  rintro e w1 ⟨rfl, k1⟩
  have HK1 := hide ((unhide HK0).trans k1 (by simp))
  clear k1
  go_wp2
  go_ret
  exact ⟨rfl, unhide HK1⟩

set_option maxRecDepth 100000 in
set_option maxHeartbeats 1000000 in
theorem fits_any (b : Nat) (ao : Option Addr) (n cap : Nat) (c : Int) (t : Bool) (w : World) (hb : b < 65536) (hn : n ≤ 1000000000000) (hc : -9223372036854775808 ≤ c ∧ c ≤ 9223372036854775807) :
    Calls Tryd.prog 31 #[.agg #[.int .u16 b, .slice ao n cap], .int .i64 c, .bool t] w fun e w' => e = .returned (.bool (fitS b n c t)) ∧ Kept [] w w' := by
  have HK0 := hide ((Kept.refl [] w).alloc (.cells #[.int .u16 b, .slice ao n cap] 43))
  have HG0 := hide (heap_alloc_new w (.cells #[.int .u16 b, .slice ao n cap] 43))
  go_enter Tryd.func31, Tryd.ntmps31
  by_cases h0 : b = 0
  · have hF : fitS b n c t = false := by unfold fitS; rw [h0]; simp
    rw [hF]
    clear hF HG0
    subst h0
    cases t with
    | true =>
      go_wp2_with fail
      go_ret
      exact ⟨rfl, unhide HK0⟩
    | false =>
      go_wp2_with fail
      go_ret
      exact ⟨rfl, unhide HK0⟩
  · have h0' : ¬ (b : Int) = 0 := by omega
    have HF := hide (by unfold fitS; rw [decide_eq_true h0, Bool.true_and] : fitS b n c t = ((hasB b c == t) && decide (cnt b 16 = n + (if t then 1 else 0))))
    generalize fitS b n c t = F at HF ⊢
    have H0 := hide h0
    clear h0
    cases t with
    | true =>
      go_wp2_with fail
      refine Calls.mono (has_any b c _ hb hc) ?_
      rintro e w1 ⟨rfl, k1⟩
      have HK1 := hide ((unhide HK0).trans k1 (by simp))
      have c0 : w1.cell? ⟨w.heap.size, 0, none⟩ = some (.int .u16 b) := cell_of_row w1 w.heap.size _ _ _ _ (k1.heap (unhide HG0) (by simp))
      clear k1
      generalize hasB b c = G at HF ⊢
      cases G with
      | true =>
        go_wp2_with fail
        refine Calls.mono (count_any b _ hb) ?_
        rintro e w2 ⟨rfl, k2⟩
        have HK2 := hide ((unhide HK1).trans k2 (by simp))
        clear k2 c0
        generalize cnt b 16 = C at HF ⊢
        by_cases hC : C = n + 1
        · have hC' : (C : Int) = (n : Int) + 1 := by omega
          go_wp2
          go_ret
          exact ⟨by have h0 := unhide H0; rw [unhide HF, hC]; simp [h0], unhide HK2⟩
        · have hC' : ¬ (C : Int) = (n : Int) + 1 := by omega
          go_wp2
          go_ret
          exact ⟨by have h0 := unhide H0; rw [unhide HF]; simp [hC, h0, hC'], unhide HK2⟩
      | false =>
        go_wp2
        go_ret
        exact ⟨by have h0 := unhide H0; rw [unhide HF]; simp [h0], unhide HK1⟩
    | false =>
      go_wp2_with fail
      refine Calls.mono (has_any b c _ hb hc) ?_
      rintro e w1 ⟨rfl, k1⟩
      have HK1 := hide ((unhide HK0).trans k1 (by simp))
      have c0 : w1.cell? ⟨w.heap.size, 0, none⟩ = some (.int .u16 b) := cell_of_row w1 w.heap.size _ _ _ _ (k1.heap (unhide HG0) (by simp))
      clear k1
      generalize hasB b c = G at HF ⊢
      cases G with
      | false =>
        go_wp2_with fail
        refine Calls.mono (count_any b _ hb) ?_
        rintro e w2 ⟨rfl, k2⟩
        have HK2 := hide ((unhide HK1).trans k2 (by simp))
        clear k2 c0
        generalize cnt b 16 = C at HF ⊢
        by_cases hC : C = n
        · have hC' : (C : Int) = (n : Int) := by omega
          go_wp2
          go_ret
          exact ⟨by have h0 := unhide H0; rw [unhide HF, hC]; simp [h0], unhide HK2⟩
        · have hC' : ¬ (C : Int) = (n : Int) := by omega
          go_wp2
          go_ret
          exact ⟨by have h0 := unhide H0; rw [unhide HF]; simp [hC, h0, hC'], unhide HK2⟩
      | true =>
        go_wp2
        go_ret
        exact ⟨by have h0 := unhide H0; rw [unhide HF]; simp [h0], unhide HK1⟩
end Go.Proofs.YtjafmnemobcipaaDoor
namespace Go.Proofs.YtjafmnemobcipaaDoor
open Go.RowKit Go.BigFrame
set_option linter.unusedVariables false
set_option linter.unusedSimpArgs false

theorem RdS.cells {w : World} {ao : Option Addr} {len cap : Nat} {ss : List (Nat × List (List Nat))} (h : RdS w (.slice ao len cap) ss) : ss.length = len ∧ len ≤ cap ∧ cap ≤ 9223372036854775807 ∧
    ∀ i, i < len → ∃ b off v, ao = some ⟨b, off, none⟩ ∧ w.cell? ⟨b, off + i * 2, none⟩ = some (.int .u16 ((ss.getD i (0, [])).1 : Int)) ∧ w.cell? ⟨b, off + i * 2 + 1, none⟩ = some v ∧ (ss.getD i (0, [])).1 < 65536 ∧ RdD w v (ss.getD i (0, [])).2 := by
  obtain ⟨ao', len', cap', vs, he, h1, h2, h3, h4, h5⟩ := h
  cases he
  refine ⟨h1, h2, h3, fun i hi => ?_⟩
  obtain ⟨b, off, rfl, hc⟩ := h5 (by omega)
  exact ⟨b, off, _, rfl, (hc i hi).1, (hc i hi).2, (h4 i hi).1, (h4 i hi).2⟩
theorem fitsB_down {z : Int} {ks : List Nat} {ss : List (Nat × List (List Nat))} {m i : Nat} : ∀ (n : Nat), i ≤ n → fitsB z ks ss m i = false → fitsB z ks ss m n = false
  | 0, h, hi => by obtain rfl : i = 0 := by omega
                   exact hi
  | n + 1, h, hi => by
    rcases Nat.lt_or_ge n i with h9 | h9
    · obtain rfl : i = n + 1 := by omega
      exact hi
    · rw [fitsB, fitsB_down n h9 hi]; rfl
theorem risB_len {ps : List (List Nat × List Nat)} : ∀ (n : Nat), risB ps n = true → ∀ i, i < n → (ps.getD i ([], [])).1.length ≤ 64
  | 0, _, i, hi => by omega
  | n + 1, h, i, hi => by
    rw [risB] at h
    simp only [Bool.and_eq_true, decide_eq_true_eq] at h
    rcases Nat.lt_or_ge i n with h9 | h9
    · exact risB_len n h.1 i h9
    · obtain rfl : i = n := by omega
      exact h.2.1

theorem atC_lt (z : Int) (d : List Nat) (i : Int) (h : Dg d) : atC z d i < 16 := by
  unfold atC
  split
  · exact dgt_lt h.2 _
  · omega

set_option maxRecDepth 100000 in
set_option maxHeartbeats 2000000 in
theorem proves_any (z : Int) (ks : List Nat) (sv pv : Value) (ss : List (Nat × List (List Nat))) (ps : List (List Nat × List Nat)) (w : World) (hw : widthB z = true) (hks : Dg ks) (hs : RdS w sv ss) (hp : RdK w pv ps) (hT : Tabs w) (hsl : ss.length ≤ 1000000000000) (hpl : ps.length ≤ 1000000000000) (hkl : ∀ s ∈ ss, s.2.length ≤ 1000000000000) :
    Calls Tryd.prog 16 #[.int .i64 z, .agg (brow ks), .agg #[sv, pv]] w fun e w' => e = .returned (.bool (provB z ks ss ps)) ∧ Kept [] w w' := by
  obtain ⟨sa, sn, sc, vs0, rfl, _⟩ := id hs
  obtain ⟨pa, pn, pc, _, _, rfl, _⟩ := id hp
  obtain ⟨h1, h2, h3, h4⟩ := hs.cells
  obtain ⟨g1, g2, g3, g4⟩ := hp.cells
  have H4 := hide h4
  have HP := hide hp
  have HT := hide hT
  have HKS := hide hks
  have HKL := hide hkl
  have hk32 := hks.1
  have HSK := hide (Tryd.szD hk32)
  have hz : 1 ≤ z ∧ z ≤ 32 := width_le hw
  clear h4 g4 hp hs hT hks hkl
  subst h1
  subst g1
  have HK0 := hide (((Kept.refl [] w).alloc (.cells (brow ks) 29)).alloc (.cells #[.slice sa ss.length sc, .slice pa ps.length pc] 26))
  have HG0 := hide (heap_alloc2_old w (.cells (brow ks) 29) (.cells #[.slice sa ss.length sc, .slice pa ps.length pc] 26))
  have HG1 := hide (heap_alloc2_new w (.cells (brow ks) 29) (.cells #[.slice sa ss.length sc, .slice pa ps.length pc] 26))
  go_enter Tryd.func16, Tryd.ntmps16
  obtain ⟨W, hW⟩ : ∃ W, (w.alloc (.cells (brow ks) 29)).alloc (.cells #[.slice sa ss.length sc, .slice pa ps.length pc] 26) = W := ⟨_, rfl⟩
  rw [hW] at HK0 HG0 HG1
  have c0 : W.cell? ⟨w.heap.size + 1, 0, none⟩ = some (.slice sa ss.length sc) := cell_of_row W (w.heap.size + 1) 0 _ _ _ (unhide HG1)
  have hm2 : IntKind.i64.wrap (2 * z) = 2 * z := by simp [IntKind.wrap, IntKind.signed, IntKind.bits]; omega
  have hw2 : RowKit.wrap64 (2 * z) = 2 * z := by unfold RowKit.wrap64; omega
  by_cases hlen : ss.length ≤ 2 * z.toNat
  · have hl' : ¬ (2 * z) < ss.length := by omega
    have HF := hide (by unfold provB; rw [decide_eq_true hlen, Bool.true_and] : provB z ks ss ps = (fitsB z ks ss ps.length ss.length &&
      (decide (ps.length = 0) || ((decide (ss.length = 0) || decide (cnt (ss.getD (ss.length - 1) (0, [])).1 16 ≠ 1)) && (risB ps ps.length && hanB z ks ss.length ps)))))
    clear hlen
    go_wp2_with fail
    clear hW c0 hm2 hw2
    go_loopw [24] (fun t24 wr => ∃ (i : Nat), i ≤ ss.length ∧ t24 = .int .i64 i ∧ Hid (fitsB z ks ss ps.length i = true) ∧ Hid (Kept [] W wr)) (fun t _ => ss.length - (intOf t).toNat)
    case atStart => exact ⟨0, Nat.zero_le _, rfl, hide rfl, hide (Kept.refl _ _)⟩
    case round =>
      obtain ⟨i, hi, rfl, HA, HK⟩ := hrel
      by_cases hlt : i < ss.length
      · have hlt' : (i : Int) < ss.length := by omega
        obtain ⟨b, o, v, rfl, c1, c2, hsb, r2⟩ := unhide H4 i hlt
        have HKw := hide ((unhide HK0).trans (unhide HK) (by simp))
        have q1 := (unhide HKw).cell c1 (by simp)
        have q2 := (unhide HKw).cell c2 (by simp)
        have HX := hide (r2.old (unhide HKw))
        have hsk := unhide HKL (ss.getD i (0, [])) (by rw [List.getD_eq_getElem?_getD, List.getElem?_eq_getElem hlt]; exact List.getElem_mem hlt)
        have HST := hide (by rw [fitsB, unhide HA, Bool.true_and] : fitsB z ks ss ps.length (i + 1) = fitS (ss.getD i (0, [])).1 (ss.getD i (0, [])).2.length (atC z ks i) (decide (i + 1 < ss.length) || decide (0 < ps.length)))
        have HBAD := hide (fun (h : fitsB z ks ss ps.length (i + 1) = false) => (by rw [unhide HF, fitsB_down ss.length hlt h]; rfl : provB z ks ss ps = false))
        have HAC := hide (by have h9 := atC_lt z ks i (unhide HKS); omega : -9223372036854775808 ≤ ((atC z ks i : Nat) : Int) ∧ ((atC z ks i : Nat) : Int) ≤ 9223372036854775807)
        clear c1 c2 r2
        generalize ss.getD i (0, []) = s at q1 HX HST hsb hsk
        obtain ⟨sb, sk⟩ := s
        simp only at q1 HX HST hsb hsk
        obtain ⟨a8, m8, c8, rfl, hm8, _⟩ := id (unhide HX)
        subst hm8
        have HKa := hide ((Kept.refl [] wr).alloc (.cells #[.int .u16 sb, .slice a8 sk.length c8] 43))
        have HNW := hide (heap_alloc_new wr (.cells #[.int .u16 sb, .slice a8 sk.length c8] 43))
        have HGK := hide ((unhide HKa).heap ((unhide HK).heap (unhide HG0) (by simp)) (by simp))
        have cp1 : (wr.alloc (.cells #[.int .u16 sb, .slice a8 sk.length c8] 43)).cell? ⟨w.heap.size + 1, 1, none⟩ = some (.slice pa ps.length pc) := cell_of_row _ (w.heap.size + 1) 1 _ _ _ ((unhide HKa).heap ((unhide HK).heap (unhide HG1) (by simp)) (by simp))
        have HDG := hide (fun w' (hw' : Kept [] (wr.alloc (.cells #[.int .u16 sb, .slice a8 sk.length c8] 43)) w') => (hdigit_any z ks i w' (by omega) (by omega) (unhide HKS)).mono (fun e w2 (h2 : _ ∧ _) => (⟨h2.1, hw'.trans h2.2 (by simp)⟩ : _ ∧ Kept [] (wr.alloc (.cells #[.int .u16 sb, .slice a8 sk.length c8] 43)) w2)))
        have hne : ∀ p : Prop, (∀ w', Kept [] (wr.alloc (.cells #[.int .u16 sb, .slice a8 sk.length c8] 43)) w' → p) = p := fun p => propext ⟨fun h => h _ (Kept.refl [] _), fun h _ _ => h⟩
        obtain hc | hc | hc : i + 1 < ss.length ∨ (¬ i + 1 < ss.length ∧ 0 < ps.length) ∨ (¬ i + 1 < ss.length ∧ ¬ 0 < ps.length) := by omega
        case' inl =>
          have hc' : (i : Int) < ss.length - 1 := by omega
          go_wp2_with fail
          have HV := hide (by rw [unhide HST, decide_eq_true hc, Bool.true_or] : fitsB z ks ss ps.length (i + 1) = fitS sb sk.length (atC z ks i : Nat) true)
          have HFT := hide (fun w' (hw' : Kept [] (wr.alloc (.cells #[.int .u16 sb, .slice a8 sk.length c8] 43)) w') => (fits_any sb a8 sk.length c8 (atC z ks i : Nat) true w' hsb hsk (unhide HAC)).mono (fun e w2 (h2 : _ ∧ _) => (⟨h2.1, hw'.trans h2.2 (by simp)⟩ : _ ∧ Kept [] (wr.alloc (.cells #[.int .u16 sb, .slice a8 sk.length c8] 43)) w2)))
          obtain ⟨F, hF⟩ : ∃ F, fitS sb sk.length (atC z ks i : Nat) true = F := ⟨_, rfl⟩
          rw [hF] at HV HFT
          clear hF
        case' inr.inl =>
          have hc' : ¬ (i : Int) < ss.length - 1 := by omega
          have hc2 : (0 : Int) < ps.length := by omega
          go_wp2_with fail
          have HV := hide (by rw [unhide HST, decide_eq_true hc.2, Bool.or_true] : fitsB z ks ss ps.length (i + 1) = fitS sb sk.length (atC z ks i : Nat) true)
          have HFT := hide (fun w' (hw' : Kept [] (wr.alloc (.cells #[.int .u16 sb, .slice a8 sk.length c8] 43)) w') => (fits_any sb a8 sk.length c8 (atC z ks i : Nat) true w' hsb hsk (unhide HAC)).mono (fun e w2 (h2 : _ ∧ _) => (⟨h2.1, hw'.trans h2.2 (by simp)⟩ : _ ∧ Kept [] (wr.alloc (.cells #[.int .u16 sb, .slice a8 sk.length c8] 43)) w2)))
          obtain ⟨F, hF⟩ : ∃ F, fitS sb sk.length (atC z ks i : Nat) true = F := ⟨_, rfl⟩
          rw [hF] at HV HFT
          clear hF
        case' inr.inr =>
          have hc' : ¬ (i : Int) < ss.length - 1 := by omega
          have hc2 : ¬ (0 : Int) < ps.length := by omega
          go_wp2_with fail
          have HV := hide (by rw [unhide HST, decide_eq_false hc.1, decide_eq_false hc.2, Bool.false_or] : fitsB z ks ss ps.length (i + 1) = fitS sb sk.length (atC z ks i : Nat) false)
          have HFT := hide (fun w' (hw' : Kept [] (wr.alloc (.cells #[.int .u16 sb, .slice a8 sk.length c8] 43)) w') => (fits_any sb a8 sk.length c8 (atC z ks i : Nat) false w' hsb hsk (unhide HAC)).mono (fun e w2 (h2 : _ ∧ _) => (⟨h2.1, hw'.trans h2.2 (by simp)⟩ : _ ∧ Kept [] (wr.alloc (.cells #[.int .u16 sb, .slice a8 sk.length c8] 43)) w2)))
          obtain ⟨F, hF⟩ : ∃ F, fitS sb sk.length (atC z ks i : Nat) false = F := ⟨_, rfl⟩
          rw [hF] at HV HFT
          clear hF
        all_goals
          clear hc hc' q1 q2 HST cp1
          refine wp_region_keep (by kernel_rfl) (by kernel_rfl) ?_
          refine wpQuiet_row rfl 43 (.tmp 9) rfl wr.heap.size rfl _ #[.int .u16 sb, .slice a8 sk.length c8] (0, 0) _ (fun w' hw' => hw'.heap (unhide HNW) (by simp)) Tryd.underlying43 rfl (by kernel_rfl) ?_
          simp only [Act.put, List.setIfInBounds_toArray, List.set_cons_succ, List.set_cons_zero]
          go_big_quiet_step (fail)
          refine wpQuiet_row rfl 29 (.tmp 4) rfl w.heap.size rfl _ (brow ks) (0, 0) _ (fun w' hw' => hw'.heap (unhide HGK) (by simp)) Tryd.underlying29 rfl (unhide HSK) ?_
          simp only [Act.put, List.setIfInBounds_toArray, List.set_cons_succ, List.set_cons_zero]
          go_big_quiet_step (fail)
          go_big_quiet_want
          go_big_quiet_op
          apply Exists.intro
          refine ⟨fun w' hw' => ?_, ?_⟩
          · exact unhide HDG w' hw'
          go_big_quiet_on
          go_big_quiet_step (fail)
          go_big_quiet_want
          go_big_quiet_op
          apply Exists.intro
          refine ⟨fun w' hw' => ?_, ?_⟩
          · exact unhide HFT w' hw'
          go_big_quiet_on
          cases F with
          | true =>
            repeat (go_big_quiet_step (fail))
            refine wpQuiet_nil ?_
            intro w5 hw5
            have HK5 := hide (((unhide HK).trans (unhide HKa) (by simp)).trans hw5 (by simp))
            clear hw5 hne
            go_wp2
            refine ⟨⟨i + 1, hlt, by go_num, HV, HK5⟩, ?_⟩
            simp [intOf]; omega
          | false =>
            have HB := hide (unhide HBAD (unhide HV))
            repeat (go_big_quiet_step (fail))
            refine wpQuiet_nil ?_
            intro w5 hw5
            have HK5 := hide (((unhide HK).trans (unhide HKa) (by simp)).trans hw5 (by simp))
            clear hw5 hne
            go_wp2
            go_ret
            exact ⟨by rw [unhide HB]; rfl, (unhide HK0).trans (unhide HK5) (by simp)⟩
      · have hi' : i = ss.length := by omega
        have hlt' : ¬ (i : Int) < ss.length := by omega
        have HF2 := hide (by rw [unhide HF, ← hi', unhide HA, Bool.true_and] : provB z ks ss ps = (decide (ps.length = 0) || ((decide (ss.length = 0) || decide (cnt (ss.getD (ss.length - 1) (0, [])).1 16 ≠ 1)) && (risB ps ps.length && hanB z ks ss.length ps))))
        have HKw := hide ((unhide HK0).trans (unhide HK) (by simp))
        have HGr := hide ((unhide HK).heap (unhide HG1) (by simp))
        have HGk := hide ((unhide HK).heap (unhide HG0) (by simp))
        have cp0 : wr.cell? ⟨w.heap.size + 1, 0, none⟩ = some (.slice sa ss.length sc) := cell_of_row _ (w.heap.size + 1) 0 _ _ _ (unhide HGr)
        have cp1 : wr.cell? ⟨w.heap.size + 1, 1, none⟩ = some (.slice pa ps.length pc) := cell_of_row _ (w.heap.size + 1) 1 _ _ _ (unhide HGr)
        clear hi' HA HF
        by_cases hp0 : ps.length = 0
        · have hp0' : (ps.length : Int) = 0 := by omega
          have HB := hide (by rw [unhide HF2, decide_eq_true hp0]; rfl : provB z ks ss ps = true)
          clear hp0
          go_wp2
          go_ret
          exact ⟨by rw [unhide HB]; rfl, unhide HKw⟩
        · have hp0' : ¬ (ps.length : Int) = 0 := by omega
          have HB := hide (by rw [unhide HF2, decide_eq_false hp0, Bool.false_or] : provB z ks ss ps = ((decide (ss.length = 0) || decide (cnt (ss.getD (ss.length - 1) (0, [])).1 16 ≠ 1)) && (risB ps ps.length && hanB z ks ss.length ps)))
          clear HF2
          obtain hs0 | hs0 : ss.length = 0 ∨ ¬ ss.length = 0 := by omega
          case' inl =>
            have hs0' : ¬ (0 : Int) ≤ (ss.length : Int) - 1 := by omega
            have HB2 := hide (by rw [unhide HB, decide_eq_true hs0, Bool.true_or, Bool.true_and] : provB z ks ss ps = (risB ps ps.length && hanB z ks ss.length ps))
            clear hs0 HB
            go_wp2_with fail
            obtain ⟨w5, hw5, HK5⟩ : ∃ w5, w5 = wr ∧ Hid (Kept [] wr w5) := ⟨wr, rfl, hide (Kept.refl _ _)⟩
            rw [← hw5]
            clear hw5
          case' inr =>
            have hs0' : (0 : Int) ≤ (ss.length : Int) - 1 := by omega
            obtain ⟨L, hL⟩ : ∃ L, ss.length - 1 = L := ⟨_, rfl⟩
            have hsub : (ss.length : Int) - 1 = (L : Int) := by omega
            have hLlt : L < ss.length := by omega
            have hLl : (L : Int) < ss.length := by omega
            obtain ⟨b, o, v, rfl, c1, c2, hsb, r2⟩ := unhide H4 L hLlt
            have q1 := (unhide HKw).cell c1 (by simp)
            have HB2 := hide (by rw [unhide HB, decide_eq_false hs0, Bool.false_or, hL] : provB z ks ss ps = (decide (cnt (ss.getD L (0, [])).1 16 ≠ 1) && (risB ps ps.length && hanB z ks ss.length ps)))
            clear c1 c2 r2 hL hs0 HB hLlt
            generalize (ss.getD L (0, [])).1 = sb at q1 hsb HB2
            go_wp2_with fail
            refine Calls.mono (count_any sb _ hsb) ?_
            rintro e w5 ⟨rfl, k5⟩
            have HK5 := hide k5
            clear k5 q1 hsub hLl
            generalize cnt sb 16 = C at HB2 ⊢
            have cp2 : w5.cell? ⟨w.heap.size + 1, 1, none⟩ = some (.slice pa ps.length pc) := (unhide HK5).cell cp1 (by simp)
            by_cases hC : C = 1
            · have hC' : (C : Int) = 1 := by omega
              have HB3 := hide (by rw [unhide HB2, decide_eq_false (by omega)]; rfl : provB z ks ss ps = false)
              clear hC
              go_wp2
              go_ret
              exact ⟨by rw [unhide HB3]; rfl, (unhide HKw).trans (unhide HK5) (by simp)⟩
            have hC' : ¬ (C : Int) = 1 := by omega
            have HB3 := hide (by rw [unhide HB2, decide_eq_true hC, Bool.true_and] : provB z ks ss ps = (risB ps ps.length && hanB z ks ss.length ps))
            clear hC HB2
            have HB2 := HB3
            clear HB3 cp0 cp1
            go_wp2_with fail
          all_goals
            have HKx := hide ((unhide HKw).trans (unhide HK5) (by simp))
            refine Calls.mono (rising_any _ ps _ ((unhide HP).old (unhide HKx))) ?_
            rintro e w6 ⟨rfl, k6⟩
            have HK6 := hide ((unhide HK5).trans k6 (by simp))
            have HK6w := hide ((unhide HKx).trans k6 (by simp))
            have HG6 := hide ((unhide HK6).heap (unhide HGr) (by simp))
            have HGk6 := hide ((unhide HK6).heap (unhide HGk) (by simp))
            have d0 := cell_of_row _ (w.heap.size + 1) 0 _ _ _ (unhide HG6)
            have d1 := cell_of_row _ (w.heap.size + 1) 1 _ _ _ (unhide HG6)
            clear k6 HK5 HKx
            cases hR : risB ps ps.length with
            | false =>
              have HB3 := hide (by rw [unhide HB2, hR]; rfl : provB z ks ss ps = false)
              clear hR
              go_wp2
              go_ret
              exact ⟨by rw [unhide HB3]; rfl, unhide HK6w⟩
            | true =>
              have HB3 := hide (by rw [unhide HB2, hR, Bool.true_and] : provB z ks ss ps = hanB z ks ss.length ps)
              have HLN := hide (fun p (h : p ∈ ps) => by
                obtain ⟨j, hj, rfl⟩ := List.getElem_of_mem h
                have h9 := risB_len ps.length hR j hj
                rw [List.getD_eq_getElem?_getD, List.getElem?_eq_getElem hj] at h9
                exact h9 : ∀ p ∈ ps, p.1.length ≤ 64)
              clear hR
              go_wp2_with (refine wpList_load_rowG rfl 29 _ rfl w.heap.size rfl _ (brow ks) (0, 0) _ (unhide HGk6) Tryd.underlying29 rfl (unhide HSK) ?_)
              refine Calls.mono (hang_any z ks ss.length _ ps _ (by omega) (unhide HKS) hsl ((unhide HP).old (unhide HK6w)) (by omega) ((unhide HT).k (unhide HK6w)) (unhide HLN)) ?_
              rintro e w7 ⟨rfl, k7⟩
              have HK7 := hide ((unhide HK6w).trans k7 (by simp))
              clear k7 d0 d1
              cases hH : hanB z ks ss.length ps with
              | true =>
                have HB4 := hide (by rw [unhide HB3, hH] : provB z ks ss ps = true)
                clear hH
                go_wp2
                go_ret
                exact ⟨by rw [unhide HB4]; rfl, unhide HK7⟩
              | false =>
                have HB4 := hide (by rw [unhide HB3, hH] : provB z ks ss ps = false)
                clear hH
                go_wp2
                go_ret
                exact ⟨by rw [unhide HB4]; rfl, unhide HK7⟩
  · have hl' : (2 * z) < ss.length := by omega
    have HF := hide (by unfold provB; rw [decide_eq_false hlen]; rfl : provB z ks ss ps = false)
    clear hlen
    go_wp2
    go_ret
    exact ⟨by rw [unhide HF]; rfl, unhide HK0⟩
end Go.Proofs.YtjafmnemobcipaaDoor
/-
  A drawn return of one row and a value: reads, a store, an assign. By genrs.py. No program.
-/
namespace Go.Proofs.YtjafmnemobcipaaDoor
open Go
set_option linter.unusedVariables false
set_option linter.unusedSimpArgs false
section
variable {P : Program} {Q : Exit → Act → World → Prop}
theorem wp_rs3 {id : Nat} {o0 o1 o2 : Oper} {a : Act} {w : World} (S : World → Prop) (hm : P.follows .mixedOrders = true) (hs : Region.noSelect #[o0, o1, o2] = true)
    (f0 : Region.free .any #[o0, o1, o2] #[false, false, false] 0 = true) (r0 : (Region.ready .any #[o0, o1, o2] #[false, false, false]).contains 0 = true)
    (r1 : Region.ready .any #[o0, o1, o2] #[true, false, false] = [1]) (f2 : Region.free .any #[o0, o1, o2] #[true, true, false] 2 = true) (r2 : (Region.ready .any #[o0, o1, o2] #[true, true, false]).contains 2 = true) (rr : Region.ready .any #[o0, o1, o2] #[true, true, true] = []) (g1 : o1.guard = none) (hS : S w.drew)
    (v0 v2 : Value) (A0 A2 : Act)
    (p0 : a.put o0.dst v0 = A0) (p2 : A0.put o2.dst v2 = A2) 
    (hy0 : YieldsIf P #[o0, o1, o2] S o0 v0 a)
    (hy2 : YieldsIf P #[o0, o1, o2] S o2 v2 A0)
    (W1 : World) (s1 : ∀ K : Act → World → Prop, K A0 W1 → o1.wp P A0 w.drew K (NoPanic Q)) (k1 : S W1) (h : Q .normal A2 W1) :
    (Code.region id #[o0, o1, o2] true).wp P Q a w := by
  subst p0 p2
  refine wp_region_noPanic ?_
  refine wp_region_held_drew (S := S) hm hS (fun hH => ?_)
  show wpAnyH P .any #[o0, o1, o2] (NoPanic Q) S 3 #[false, false, false] a w.drew
  refine wpAnyH_take (i := 0) (oi := o0) rfl hs f0 r0 (fun _ _ _ h => h) hy0 hS ?_
  refine wpAnyH_ready (rs := [1]) r1 (by simp) (AllReadyH.cons (o := o1) rfl (fun K hK => ?_) AllReadyH.nil)
  have wa : ∀ y, Region.wanted o1 y = true := fun y => by unfold Region.wanted; rw [g1]
  rw [if_pos (wa _)]
  refine s1 K (hK.out _ _ k1 (fun _ => ?_))
  refine wpAnyH_take (i := 2) (oi := o2) rfl hs f2 r2 (fun _ _ _ h => h) hy2 k1 ?_
  exact ⟨rr, NoPanic.normal h⟩
theorem wp_rs5 {id : Nat} {o0 o1 o2 o3 o4 : Oper} {a : Act} {w : World} (S : World → Prop) (hm : P.follows .mixedOrders = true) (hs : Region.noSelect #[o0, o1, o2, o3, o4] = true)
    (f0 : Region.free .any #[o0, o1, o2, o3, o4] #[false, false, false, false, false] 0 = true) (r0 : (Region.ready .any #[o0, o1, o2, o3, o4] #[false, false, false, false, false]).contains 0 = true)
    (f1 : Region.free .any #[o0, o1, o2, o3, o4] #[true, false, false, false, false] 1 = true) (r1 : (Region.ready .any #[o0, o1, o2, o3, o4] #[true, false, false, false, false]).contains 1 = true)
    (f2 : Region.free .any #[o0, o1, o2, o3, o4] #[true, true, false, false, false] 2 = true) (r2 : (Region.ready .any #[o0, o1, o2, o3, o4] #[true, true, false, false, false]).contains 2 = true)
    (r3 : Region.ready .any #[o0, o1, o2, o3, o4] #[true, true, true, false, false] = [3]) (f4 : Region.free .any #[o0, o1, o2, o3, o4] #[true, true, true, true, false] 4 = true) (r4 : (Region.ready .any #[o0, o1, o2, o3, o4] #[true, true, true, true, false]).contains 4 = true) (rr : Region.ready .any #[o0, o1, o2, o3, o4] #[true, true, true, true, true] = []) (g3 : o3.guard = none) (hS : S w.drew)
    (v0 v1 v2 v4 : Value) (A0 A1 A2 A4 : Act)
    (p0 : a.put o0.dst v0 = A0) (p1 : A0.put o1.dst v1 = A1) (p2 : A1.put o2.dst v2 = A2) (p4 : A2.put o4.dst v4 = A4) 
    (hy0 : YieldsIf P #[o0, o1, o2, o3, o4] S o0 v0 a)
    (hy1 : YieldsIf P #[o0, o1, o2, o3, o4] S o1 v1 A0)
    (hy2 : YieldsIf P #[o0, o1, o2, o3, o4] S o2 v2 A1)
    (hy4 : YieldsIf P #[o0, o1, o2, o3, o4] S o4 v4 A2)
    (W1 : World) (s3 : ∀ K : Act → World → Prop, K A2 W1 → o3.wp P A2 w.drew K (NoPanic Q)) (k3 : S W1) (h : Q .normal A4 W1) :
    (Code.region id #[o0, o1, o2, o3, o4] true).wp P Q a w := by
  subst p0 p1 p2 p4
  refine wp_region_noPanic ?_
  refine wp_region_held_drew (S := S) hm hS (fun hH => ?_)
  show wpAnyH P .any #[o0, o1, o2, o3, o4] (NoPanic Q) S 5 #[false, false, false, false, false] a w.drew
  refine wpAnyH_take (i := 0) (oi := o0) rfl hs f0 r0 (fun _ _ _ h => h) hy0 hS ?_
  refine wpAnyH_take (i := 1) (oi := o1) rfl hs f1 r1 (fun _ _ _ h => h) hy1 hS ?_
  refine wpAnyH_take (i := 2) (oi := o2) rfl hs f2 r2 (fun _ _ _ h => h) hy2 hS ?_
  refine wpAnyH_ready (rs := [3]) r3 (by simp) (AllReadyH.cons (o := o3) rfl (fun K hK => ?_) AllReadyH.nil)
  have wa : ∀ y, Region.wanted o3 y = true := fun y => by unfold Region.wanted; rw [g3]
  rw [if_pos (wa _)]
  refine s3 K (hK.out _ _ k3 (fun _ => ?_))
  refine wpAnyH_take (i := 4) (oi := o4) rfl hs f4 r4 (fun _ _ _ h => h) hy4 k3 ?_
  exact ⟨rr, NoPanic.normal h⟩
theorem wp_rs7 {id : Nat} {o0 o1 o2 o3 o4 o5 o6 : Oper} {a : Act} {w : World} (S : World → Prop) (hm : P.follows .mixedOrders = true) (hs : Region.noSelect #[o0, o1, o2, o3, o4, o5, o6] = true)
    (f0 : Region.free .any #[o0, o1, o2, o3, o4, o5, o6] #[false, false, false, false, false, false, false] 0 = true) (r0 : (Region.ready .any #[o0, o1, o2, o3, o4, o5, o6] #[false, false, false, false, false, false, false]).contains 0 = true)
    (f1 : Region.free .any #[o0, o1, o2, o3, o4, o5, o6] #[true, false, false, false, false, false, false] 1 = true) (r1 : (Region.ready .any #[o0, o1, o2, o3, o4, o5, o6] #[true, false, false, false, false, false, false]).contains 1 = true)
    (f2 : Region.free .any #[o0, o1, o2, o3, o4, o5, o6] #[true, true, false, false, false, false, false] 2 = true) (r2 : (Region.ready .any #[o0, o1, o2, o3, o4, o5, o6] #[true, true, false, false, false, false, false]).contains 2 = true)
    (f3 : Region.free .any #[o0, o1, o2, o3, o4, o5, o6] #[true, true, true, false, false, false, false] 3 = true) (r3 : (Region.ready .any #[o0, o1, o2, o3, o4, o5, o6] #[true, true, true, false, false, false, false]).contains 3 = true)
    (f4 : Region.free .any #[o0, o1, o2, o3, o4, o5, o6] #[true, true, true, true, false, false, false] 4 = true) (r4 : (Region.ready .any #[o0, o1, o2, o3, o4, o5, o6] #[true, true, true, true, false, false, false]).contains 4 = true)
    (r5 : Region.ready .any #[o0, o1, o2, o3, o4, o5, o6] #[true, true, true, true, true, false, false] = [5]) (f6 : Region.free .any #[o0, o1, o2, o3, o4, o5, o6] #[true, true, true, true, true, true, false] 6 = true) (r6 : (Region.ready .any #[o0, o1, o2, o3, o4, o5, o6] #[true, true, true, true, true, true, false]).contains 6 = true) (rr : Region.ready .any #[o0, o1, o2, o3, o4, o5, o6] #[true, true, true, true, true, true, true] = []) (g5 : o5.guard = none) (hS : S w.drew)
    (v0 v1 v2 v3 v4 v6 : Value) (A0 A1 A2 A3 A4 A6 : Act)
    (p0 : a.put o0.dst v0 = A0) (p1 : A0.put o1.dst v1 = A1) (p2 : A1.put o2.dst v2 = A2) (p3 : A2.put o3.dst v3 = A3) (p4 : A3.put o4.dst v4 = A4) (p6 : A4.put o6.dst v6 = A6) 
    (hy0 : YieldsIf P #[o0, o1, o2, o3, o4, o5, o6] S o0 v0 a)
    (hy1 : YieldsIf P #[o0, o1, o2, o3, o4, o5, o6] S o1 v1 A0)
    (hy2 : YieldsIf P #[o0, o1, o2, o3, o4, o5, o6] S o2 v2 A1)
    (hy3 : YieldsIf P #[o0, o1, o2, o3, o4, o5, o6] S o3 v3 A2)
    (hy4 : YieldsIf P #[o0, o1, o2, o3, o4, o5, o6] S o4 v4 A3)
    (hy6 : YieldsIf P #[o0, o1, o2, o3, o4, o5, o6] S o6 v6 A4)
    (W1 : World) (s5 : ∀ K : Act → World → Prop, K A4 W1 → o5.wp P A4 w.drew K (NoPanic Q)) (k5 : S W1) (h : Q .normal A6 W1) :
    (Code.region id #[o0, o1, o2, o3, o4, o5, o6] true).wp P Q a w := by
  subst p0 p1 p2 p3 p4 p6
  refine wp_region_noPanic ?_
  refine wp_region_held_drew (S := S) hm hS (fun hH => ?_)
  show wpAnyH P .any #[o0, o1, o2, o3, o4, o5, o6] (NoPanic Q) S 7 #[false, false, false, false, false, false, false] a w.drew
  refine wpAnyH_take (i := 0) (oi := o0) rfl hs f0 r0 (fun _ _ _ h => h) hy0 hS ?_
  refine wpAnyH_take (i := 1) (oi := o1) rfl hs f1 r1 (fun _ _ _ h => h) hy1 hS ?_
  refine wpAnyH_take (i := 2) (oi := o2) rfl hs f2 r2 (fun _ _ _ h => h) hy2 hS ?_
  refine wpAnyH_take (i := 3) (oi := o3) rfl hs f3 r3 (fun _ _ _ h => h) hy3 hS ?_
  refine wpAnyH_take (i := 4) (oi := o4) rfl hs f4 r4 (fun _ _ _ h => h) hy4 hS ?_
  refine wpAnyH_ready (rs := [5]) r5 (by simp) (AllReadyH.cons (o := o5) rfl (fun K hK => ?_) AllReadyH.nil)
  have wa : ∀ y, Region.wanted o5 y = true := fun y => by unfold Region.wanted; rw [g5]
  rw [if_pos (wa _)]
  refine s5 K (hK.out _ _ k5 (fun _ => ?_))
  refine wpAnyH_take (i := 6) (oi := o6) rfl hs f6 r6 (fun _ _ _ h => h) hy6 k5 ?_
  exact ⟨rr, NoPanic.normal h⟩
end
end Go.Proofs.YtjafmnemobcipaaDoor
/-
  A drawn 'd, e := f(..)' whose new row may be laid ahead of the call. By gencall.py. No program.
-/
namespace Go.Proofs.YtjafmnemobcipaaDoor
open Go Go.RowKit Go.BigFrame
set_option linter.unusedVariables false
set_option linter.unusedSimpArgs false
section
variable {P : Program} {Q : Exit → Act → World → Prop}
theorem wp_call20 {id : Nat} {o0 o1 o2 o3 o4 o5 o6 o7 o8 o9 o10 o11 o12 o13 o14 o15 o16 o17 o18 o19 : Oper} {a : Act} {w : World} (hm : P.follows .mixedOrders = true) (hs : Region.noSelect #[o0, o1, o2, o3, o4, o5, o6, o7, o8, o9, o10, o11, o12, o13, o14, o15, o16, o17, o18, o19] = true)
    (f0 : Region.free .any #[o0, o1, o2, o3, o4, o5, o6, o7, o8, o9, o10, o11, o12, o13, o14, o15, o16, o17, o18, o19] #[false, false, false, false, false, false, false, false, false, false, false, false, false, false, false, false, false, false, false, false] 0 = true) (r0 : (Region.ready .any #[o0, o1, o2, o3, o4, o5, o6, o7, o8, o9, o10, o11, o12, o13, o14, o15, o16, o17, o18, o19] #[false, false, false, false, false, false, false, false, false, false, false, false, false, false, false, false, false, false, false, false]).contains 0 = true)
    (f1 : Region.free .any #[o0, o1, o2, o3, o4, o5, o6, o7, o8, o9, o10, o11, o12, o13, o14, o15, o16, o17, o18, o19] #[true, false, false, false, false, false, false, false, false, false, false, false, false, false, false, false, false, false, false, false] 1 = true) (r1 : (Region.ready .any #[o0, o1, o2, o3, o4, o5, o6, o7, o8, o9, o10, o11, o12, o13, o14, o15, o16, o17, o18, o19] #[true, false, false, false, false, false, false, false, false, false, false, false, false, false, false, false, false, false, false, false]).contains 1 = true)
    (f2 : Region.free .any #[o0, o1, o2, o3, o4, o5, o6, o7, o8, o9, o10, o11, o12, o13, o14, o15, o16, o17, o18, o19] #[true, true, false, false, false, false, false, false, false, false, false, false, false, false, false, false, false, false, false, false] 2 = true) (r2 : (Region.ready .any #[o0, o1, o2, o3, o4, o5, o6, o7, o8, o9, o10, o11, o12, o13, o14, o15, o16, o17, o18, o19] #[true, true, false, false, false, false, false, false, false, false, false, false, false, false, false, false, false, false, false, false]).contains 2 = true)
    (f3 : Region.free .any #[o0, o1, o2, o3, o4, o5, o6, o7, o8, o9, o10, o11, o12, o13, o14, o15, o16, o17, o18, o19] #[true, true, true, false, false, false, false, false, false, false, false, false, false, false, false, false, false, false, false, false] 3 = true) (r3 : (Region.ready .any #[o0, o1, o2, o3, o4, o5, o6, o7, o8, o9, o10, o11, o12, o13, o14, o15, o16, o17, o18, o19] #[true, true, true, false, false, false, false, false, false, false, false, false, false, false, false, false, false, false, false, false]).contains 3 = true)
    (f4 : Region.free .any #[o0, o1, o2, o3, o4, o5, o6, o7, o8, o9, o10, o11, o12, o13, o14, o15, o16, o17, o18, o19] #[true, true, true, true, false, false, false, false, false, false, false, false, false, false, false, false, false, false, false, false] 4 = true) (r4 : (Region.ready .any #[o0, o1, o2, o3, o4, o5, o6, o7, o8, o9, o10, o11, o12, o13, o14, o15, o16, o17, o18, o19] #[true, true, true, true, false, false, false, false, false, false, false, false, false, false, false, false, false, false, false, false]).contains 4 = true)
    (f5 : Region.free .any #[o0, o1, o2, o3, o4, o5, o6, o7, o8, o9, o10, o11, o12, o13, o14, o15, o16, o17, o18, o19] #[true, true, true, true, true, false, false, false, false, false, false, false, false, false, false, false, false, false, false, false] 5 = true) (r5 : (Region.ready .any #[o0, o1, o2, o3, o4, o5, o6, o7, o8, o9, o10, o11, o12, o13, o14, o15, o16, o17, o18, o19] #[true, true, true, true, true, false, false, false, false, false, false, false, false, false, false, false, false, false, false, false]).contains 5 = true)
    (f6 : Region.free .any #[o0, o1, o2, o3, o4, o5, o6, o7, o8, o9, o10, o11, o12, o13, o14, o15, o16, o17, o18, o19] #[true, true, true, true, true, true, false, false, false, false, false, false, false, false, false, false, false, false, false, false] 6 = true) (r6 : (Region.ready .any #[o0, o1, o2, o3, o4, o5, o6, o7, o8, o9, o10, o11, o12, o13, o14, o15, o16, o17, o18, o19] #[true, true, true, true, true, true, false, false, false, false, false, false, false, false, false, false, false, false, false, false]).contains 6 = true)
    (f7 : Region.free .any #[o0, o1, o2, o3, o4, o5, o6, o7, o8, o9, o10, o11, o12, o13, o14, o15, o16, o17, o18, o19] #[true, true, true, true, true, true, true, false, false, false, false, false, false, false, false, false, false, false, false, false] 7 = true) (r7 : (Region.ready .any #[o0, o1, o2, o3, o4, o5, o6, o7, o8, o9, o10, o11, o12, o13, o14, o15, o16, o17, o18, o19] #[true, true, true, true, true, true, true, false, false, false, false, false, false, false, false, false, false, false, false, false]).contains 7 = true)
    (f8 : Region.free .any #[o0, o1, o2, o3, o4, o5, o6, o7, o8, o9, o10, o11, o12, o13, o14, o15, o16, o17, o18, o19] #[true, true, true, true, true, true, true, true, false, false, false, false, false, false, false, false, false, false, false, false] 8 = true) (r8 : (Region.ready .any #[o0, o1, o2, o3, o4, o5, o6, o7, o8, o9, o10, o11, o12, o13, o14, o15, o16, o17, o18, o19] #[true, true, true, true, true, true, true, true, false, false, false, false, false, false, false, false, false, false, false, false]).contains 8 = true)
    (f9 : Region.free .any #[o0, o1, o2, o3, o4, o5, o6, o7, o8, o9, o10, o11, o12, o13, o14, o15, o16, o17, o18, o19] #[true, true, true, true, true, true, true, true, true, false, false, false, false, false, false, false, false, false, false, false] 9 = true) (r9 : (Region.ready .any #[o0, o1, o2, o3, o4, o5, o6, o7, o8, o9, o10, o11, o12, o13, o14, o15, o16, o17, o18, o19] #[true, true, true, true, true, true, true, true, true, false, false, false, false, false, false, false, false, false, false, false]).contains 9 = true)
    (f10 : Region.free .any #[o0, o1, o2, o3, o4, o5, o6, o7, o8, o9, o10, o11, o12, o13, o14, o15, o16, o17, o18, o19] #[true, true, true, true, true, true, true, true, true, true, false, false, false, false, false, false, false, false, false, false] 10 = true) (r10 : (Region.ready .any #[o0, o1, o2, o3, o4, o5, o6, o7, o8, o9, o10, o11, o12, o13, o14, o15, o16, o17, o18, o19] #[true, true, true, true, true, true, true, true, true, true, false, false, false, false, false, false, false, false, false, false]).contains 10 = true)
    (f11 : Region.free .any #[o0, o1, o2, o3, o4, o5, o6, o7, o8, o9, o10, o11, o12, o13, o14, o15, o16, o17, o18, o19] #[true, true, true, true, true, true, true, true, true, true, true, false, false, false, false, false, false, false, false, false] 11 = true) (r11 : (Region.ready .any #[o0, o1, o2, o3, o4, o5, o6, o7, o8, o9, o10, o11, o12, o13, o14, o15, o16, o17, o18, o19] #[true, true, true, true, true, true, true, true, true, true, true, false, false, false, false, false, false, false, false, false]).contains 11 = true)
    (f12 : Region.free .any #[o0, o1, o2, o3, o4, o5, o6, o7, o8, o9, o10, o11, o12, o13, o14, o15, o16, o17, o18, o19] #[true, true, true, true, true, true, true, true, true, true, true, true, false, false, false, false, false, false, false, false] 12 = true) (r12 : (Region.ready .any #[o0, o1, o2, o3, o4, o5, o6, o7, o8, o9, o10, o11, o12, o13, o14, o15, o16, o17, o18, o19] #[true, true, true, true, true, true, true, true, true, true, true, true, false, false, false, false, false, false, false, false]).contains 12 = true)
    (qs : Region.ready .any #[o0, o1, o2, o3, o4, o5, o6, o7, o8, o9, o10, o11, o12, o13, o14, o15, o16, o17, o18, o19] #[true, true, true, true, true, true, true, true, true, true, true, true, true, false, false, false, false, false, false, false] = [13, 17])
    (fA14 : Region.free .any #[o0, o1, o2, o3, o4, o5, o6, o7, o8, o9, o10, o11, o12, o13, o14, o15, o16, o17, o18, o19] #[true, true, true, true, true, true, true, true, true, true, true, true, true, true, false, false, false, false, false, false] 14 = true) (rA14 : (Region.ready .any #[o0, o1, o2, o3, o4, o5, o6, o7, o8, o9, o10, o11, o12, o13, o14, o15, o16, o17, o18, o19] #[true, true, true, true, true, true, true, true, true, true, true, true, true, true, false, false, false, false, false, false]).contains 14 = true)
    (fA15 : Region.free .any #[o0, o1, o2, o3, o4, o5, o6, o7, o8, o9, o10, o11, o12, o13, o14, o15, o16, o17, o18, o19] #[true, true, true, true, true, true, true, true, true, true, true, true, true, true, true, false, false, false, false, false] 15 = true) (rA15 : (Region.ready .any #[o0, o1, o2, o3, o4, o5, o6, o7, o8, o9, o10, o11, o12, o13, o14, o15, o16, o17, o18, o19] #[true, true, true, true, true, true, true, true, true, true, true, true, true, true, true, false, false, false, false, false]).contains 15 = true)
    (fA16 : Region.free .any #[o0, o1, o2, o3, o4, o5, o6, o7, o8, o9, o10, o11, o12, o13, o14, o15, o16, o17, o18, o19] #[true, true, true, true, true, true, true, true, true, true, true, true, true, true, true, true, false, false, false, false] 16 = true) (rA16 : (Region.ready .any #[o0, o1, o2, o3, o4, o5, o6, o7, o8, o9, o10, o11, o12, o13, o14, o15, o16, o17, o18, o19] #[true, true, true, true, true, true, true, true, true, true, true, true, true, true, true, true, false, false, false, false]).contains 16 = true)
    (rAal : Region.ready .any #[o0, o1, o2, o3, o4, o5, o6, o7, o8, o9, o10, o11, o12, o13, o14, o15, o16, o17, o18, o19] #[true, true, true, true, true, true, true, true, true, true, true, true, true, true, true, true, true, false, false, false] = [17])
    (rBc : Region.ready .any #[o0, o1, o2, o3, o4, o5, o6, o7, o8, o9, o10, o11, o12, o13, o14, o15, o16, o17, o18, o19] #[true, true, true, true, true, true, true, true, true, true, true, true, true, false, false, false, false, true, false, false] = [13])
    (fB14 : Region.free .any #[o0, o1, o2, o3, o4, o5, o6, o7, o8, o9, o10, o11, o12, o13, o14, o15, o16, o17, o18, o19] #[true, true, true, true, true, true, true, true, true, true, true, true, true, true, false, false, false, true, false, false] 14 = true) (rB14 : (Region.ready .any #[o0, o1, o2, o3, o4, o5, o6, o7, o8, o9, o10, o11, o12, o13, o14, o15, o16, o17, o18, o19] #[true, true, true, true, true, true, true, true, true, true, true, true, true, true, false, false, false, true, false, false]).contains 14 = true)
    (fB15 : Region.free .any #[o0, o1, o2, o3, o4, o5, o6, o7, o8, o9, o10, o11, o12, o13, o14, o15, o16, o17, o18, o19] #[true, true, true, true, true, true, true, true, true, true, true, true, true, true, true, false, false, true, false, false] 15 = true) (rB15 : (Region.ready .any #[o0, o1, o2, o3, o4, o5, o6, o7, o8, o9, o10, o11, o12, o13, o14, o15, o16, o17, o18, o19] #[true, true, true, true, true, true, true, true, true, true, true, true, true, true, true, false, false, true, false, false]).contains 15 = true)
    (fB16 : Region.free .any #[o0, o1, o2, o3, o4, o5, o6, o7, o8, o9, o10, o11, o12, o13, o14, o15, o16, o17, o18, o19] #[true, true, true, true, true, true, true, true, true, true, true, true, true, true, true, true, false, true, false, false] 16 = true) (rB16 : (Region.ready .any #[o0, o1, o2, o3, o4, o5, o6, o7, o8, o9, o10, o11, o12, o13, o14, o15, o16, o17, o18, o19] #[true, true, true, true, true, true, true, true, true, true, true, true, true, true, true, true, false, true, false, false]).contains 16 = true)
    (rst : Region.ready .any #[o0, o1, o2, o3, o4, o5, o6, o7, o8, o9, o10, o11, o12, o13, o14, o15, o16, o17, o18, o19] #[true, true, true, true, true, true, true, true, true, true, true, true, true, true, true, true, true, true, false, false] = [18])
    (f19 : Region.free .any #[o0, o1, o2, o3, o4, o5, o6, o7, o8, o9, o10, o11, o12, o13, o14, o15, o16, o17, o18, o19] #[true, true, true, true, true, true, true, true, true, true, true, true, true, true, true, true, true, true, true, false] 19 = true) (r19 : (Region.ready .any #[o0, o1, o2, o3, o4, o5, o6, o7, o8, o9, o10, o11, o12, o13, o14, o15, o16, o17, o18, o19] #[true, true, true, true, true, true, true, true, true, true, true, true, true, true, true, true, true, true, true, false]).contains 19 = true)
    (rr : Region.ready .any #[o0, o1, o2, o3, o4, o5, o6, o7, o8, o9, o10, o11, o12, o13, o14, o15, o16, o17, o18, o19] #[true, true, true, true, true, true, true, true, true, true, true, true, true, true, true, true, true, true, true, true] = []) (gc : o13.guard = none) (gal : o17.guard = none) (gst : o18.guard = none)
    (v0 v1 v2 v3 v4 v5 v6 v7 v8 v9 v10 v11 v12 v13 v14 v15 v16 v19 : Value) (A0 A1 A2 A3 A4 A5 A6 A7 A8 A9 A10 A11 A12 : Act)
    (p0 : a.put o0.dst v0 = A0) (p1 : A0.put o1.dst v1 = A1) (p2 : A1.put o2.dst v2 = A2) (p3 : A2.put o3.dst v3 = A3) (p4 : A3.put o4.dst v4 = A4) (p5 : A4.put o5.dst v5 = A5) (p6 : A5.put o6.dst v6 = A6) (p7 : A6.put o7.dst v7 = A7) (p8 : A7.put o8.dst v8 = A8) (p9 : A8.put o9.dst v9 = A9) (p10 : A9.put o10.dst v10 = A10) (p11 : A10.put o11.dst v11 = A11) (p12 : A11.put o12.dst v12 = A12) 
    (hy0 : YieldsIf P #[o0, o1, o2, o3, o4, o5, o6, o7, o8, o9, o10, o11, o12, o13, o14, o15, o16, o17, o18, o19] (fun w' => Kept [] w w') o0 v0 a)
    (hy1 : YieldsIf P #[o0, o1, o2, o3, o4, o5, o6, o7, o8, o9, o10, o11, o12, o13, o14, o15, o16, o17, o18, o19] (fun w' => Kept [] w w') o1 v1 A0)
    (hy2 : YieldsIf P #[o0, o1, o2, o3, o4, o5, o6, o7, o8, o9, o10, o11, o12, o13, o14, o15, o16, o17, o18, o19] (fun w' => Kept [] w w') o2 v2 A1)
    (hy3 : YieldsIf P #[o0, o1, o2, o3, o4, o5, o6, o7, o8, o9, o10, o11, o12, o13, o14, o15, o16, o17, o18, o19] (fun w' => Kept [] w w') o3 v3 A2)
    (hy4 : YieldsIf P #[o0, o1, o2, o3, o4, o5, o6, o7, o8, o9, o10, o11, o12, o13, o14, o15, o16, o17, o18, o19] (fun w' => Kept [] w w') o4 v4 A3)
    (hy5 : YieldsIf P #[o0, o1, o2, o3, o4, o5, o6, o7, o8, o9, o10, o11, o12, o13, o14, o15, o16, o17, o18, o19] (fun w' => Kept [] w w') o5 v5 A4)
    (hy6 : YieldsIf P #[o0, o1, o2, o3, o4, o5, o6, o7, o8, o9, o10, o11, o12, o13, o14, o15, o16, o17, o18, o19] (fun w' => Kept [] w w') o6 v6 A5)
    (hy7 : YieldsIf P #[o0, o1, o2, o3, o4, o5, o6, o7, o8, o9, o10, o11, o12, o13, o14, o15, o16, o17, o18, o19] (fun w' => Kept [] w w') o7 v7 A6)
    (hy8 : YieldsIf P #[o0, o1, o2, o3, o4, o5, o6, o7, o8, o9, o10, o11, o12, o13, o14, o15, o16, o17, o18, o19] (fun w' => Kept [] w w') o8 v8 A7)
    (hy9 : YieldsIf P #[o0, o1, o2, o3, o4, o5, o6, o7, o8, o9, o10, o11, o12, o13, o14, o15, o16, o17, o18, o19] (fun w' => Kept [] w w') o9 v9 A8)
    (hy10 : YieldsIf P #[o0, o1, o2, o3, o4, o5, o6, o7, o8, o9, o10, o11, o12, o13, o14, o15, o16, o17, o18, o19] (fun w' => Kept [] w w') o10 v10 A9)
    (hy11 : YieldsIf P #[o0, o1, o2, o3, o4, o5, o6, o7, o8, o9, o10, o11, o12, o13, o14, o15, o16, o17, o18, o19] (fun w' => Kept [] w w') o11 v11 A10)
    (hy12 : YieldsIf P #[o0, o1, o2, o3, o4, o5, o6, o7, o8, o9, o10, o11, o12, o13, o14, o15, o16, o17, o18, o19] (fun w' => Kept [] w w') o12 v12 A11)
    (kcA : ∀ w0, Kept [] w w0 → ∀ K : Act → World → Prop, (∀ w1, Kept [] w0 w1 → K (A12.put o13.dst v13) w1) → o13.wp P A12 w0 K (NoPanic Q))
    (kcB : ∀ (g : Nat) w0, Kept [] w w0 → ∀ K : Act → World → Prop, (∀ w1, Kept [] w0 w1 → K ((A12.put o17.dst (.pointer (some ⟨g, 0, none⟩))).put o13.dst v13) w1) → o13.wp P (A12.put o17.dst (.pointer (some ⟨g, 0, none⟩))) w0 K (NoPanic Q))
    (hA14 : YieldsIf P #[o0, o1, o2, o3, o4, o5, o6, o7, o8, o9, o10, o11, o12, o13, o14, o15, o16, o17, o18, o19] (fun w' => Kept [] w w') o14 v14 (A12.put o13.dst v13))
    (hB14 : ∀ g : Nat, YieldsIf P #[o0, o1, o2, o3, o4, o5, o6, o7, o8, o9, o10, o11, o12, o13, o14, o15, o16, o17, o18, o19] (fun w' => Kept [] w w') o14 v14 ((A12.put o17.dst (.pointer (some ⟨g, 0, none⟩))).put o13.dst v13))
    (hA15 : YieldsIf P #[o0, o1, o2, o3, o4, o5, o6, o7, o8, o9, o10, o11, o12, o13, o14, o15, o16, o17, o18, o19] (fun w' => Kept [] w w') o15 v15 ((A12.put o13.dst v13).put o14.dst v14))
    (hB15 : ∀ g : Nat, YieldsIf P #[o0, o1, o2, o3, o4, o5, o6, o7, o8, o9, o10, o11, o12, o13, o14, o15, o16, o17, o18, o19] (fun w' => Kept [] w w') o15 v15 (((A12.put o17.dst (.pointer (some ⟨g, 0, none⟩))).put o13.dst v13).put o14.dst v14))
    (hA16 : YieldsIf P #[o0, o1, o2, o3, o4, o5, o6, o7, o8, o9, o10, o11, o12, o13, o14, o15, o16, o17, o18, o19] (fun w' => Kept [] w w') o16 v16 (((A12.put o13.dst v13).put o14.dst v14).put o15.dst v15))
    (hB16 : ∀ g : Nat, YieldsIf P #[o0, o1, o2, o3, o4, o5, o6, o7, o8, o9, o10, o11, o12, o13, o14, o15, o16, o17, o18, o19] (fun w' => Kept [] w w') o16 v16 ((((A12.put o17.dst (.pointer (some ⟨g, 0, none⟩))).put o13.dst v13).put o14.dst v14).put o15.dst v15))
    (ty : TypeId) (Z cs : Array Value) (hal : ∀ (a' : Act) (w' : World) (K : Act → World → Prop), K (a'.put o17.dst (.pointer (some ⟨w'.heap.size, 0, none⟩))) (w'.alloc (.cells Z ty)) → o17.wp P a' w' K (NoPanic Q))
    (ne13 : ∀ d, o17.dst = some d → o13.dst ≠ some d)
    (ne14 : ∀ d, o17.dst = some d → o14.dst ≠ some d)
    (ne15 : ∀ d, o17.dst = some d → o15.dst ≠ some d)
    (ne16 : ∀ d, o17.dst = some d → o16.dst ≠ some d)
    (hst : ∀ (g : Nat) (w' : World) (K : Act → World → Prop), w'.heap[g]? = some (.cells Z ty (0, 0)) → K (((((A12.put o13.dst v13).put o14.dst v14).put o15.dst v15).put o16.dst v16).put o17.dst (.pointer (some ⟨g, 0, none⟩))) (w'.setRow g cs) → o18.wp P (((((A12.put o13.dst v13).put o14.dst v14).put o15.dst v15).put o16.dst v16).put o17.dst (.pointer (some ⟨g, 0, none⟩))) w' K (NoPanic Q))
    (hyl : ∀ g : Nat, YieldsIf P #[o0, o1, o2, o3, o4, o5, o6, o7, o8, o9, o10, o11, o12, o13, o14, o15, o16, o17, o18, o19] (fun w' => Kept [] w w') o19 v19 (((((A12.put o13.dst v13).put o14.dst v14).put o15.dst v15).put o16.dst v16).put o17.dst (.pointer (some ⟨g, 0, none⟩))))
    (h : ∀ (g : Nat) (w' : World), w.heap.size ≤ g → Kept [] w w' → w'.heap[g]? = some (.cells cs ty (0, 0)) → Q .normal ((((((A12.put o13.dst v13).put o14.dst v14).put o15.dst v15).put o16.dst v16).put o17.dst (.pointer (some ⟨g, 0, none⟩))).put o19.dst v19) w') :
    (Code.region id #[o0, o1, o2, o3, o4, o5, o6, o7, o8, o9, o10, o11, o12, o13, o14, o15, o16, o17, o18, o19] true).wp P Q a w := by
  subst p0 p1 p2 p3 p4 p5 p6 p7 p8 p9 p10 p11 p12
  have k00 : Kept [] w w.drew := (Kept.refl [] w).drew
  refine wp_region_noPanic ?_
  refine wp_region_held_drew (S := fun w' => Kept [] w w') hm k00 (fun hH => ?_)
  show wpAnyH P .any #[o0, o1, o2, o3, o4, o5, o6, o7, o8, o9, o10, o11, o12, o13, o14, o15, o16, o17, o18, o19] (NoPanic Q) _ 20 #[false, false, false, false, false, false, false, false, false, false, false, false, false, false, false, false, false, false, false, false] a w.drew
  refine wpAnyH_take (i := 0) (oi := o0) rfl hs f0 r0 (fun _ _ _ h => h) hy0 k00 ?_
  refine wpAnyH_take (i := 1) (oi := o1) rfl hs f1 r1 (fun _ _ _ h => h) hy1 k00 ?_
  refine wpAnyH_take (i := 2) (oi := o2) rfl hs f2 r2 (fun _ _ _ h => h) hy2 k00 ?_
  refine wpAnyH_take (i := 3) (oi := o3) rfl hs f3 r3 (fun _ _ _ h => h) hy3 k00 ?_
  refine wpAnyH_take (i := 4) (oi := o4) rfl hs f4 r4 (fun _ _ _ h => h) hy4 k00 ?_
  refine wpAnyH_take (i := 5) (oi := o5) rfl hs f5 r5 (fun _ _ _ h => h) hy5 k00 ?_
  refine wpAnyH_take (i := 6) (oi := o6) rfl hs f6 r6 (fun _ _ _ h => h) hy6 k00 ?_
  refine wpAnyH_take (i := 7) (oi := o7) rfl hs f7 r7 (fun _ _ _ h => h) hy7 k00 ?_
  refine wpAnyH_take (i := 8) (oi := o8) rfl hs f8 r8 (fun _ _ _ h => h) hy8 k00 ?_
  refine wpAnyH_take (i := 9) (oi := o9) rfl hs f9 r9 (fun _ _ _ h => h) hy9 k00 ?_
  refine wpAnyH_take (i := 10) (oi := o10) rfl hs f10 r10 (fun _ _ _ h => h) hy10 k00 ?_
  refine wpAnyH_take (i := 11) (oi := o11) rfl hs f11 r11 (fun _ _ _ h => h) hy11 k00 ?_
  refine wpAnyH_take (i := 12) (oi := o12) rfl hs f12 r12 (fun _ _ _ h => h) hy12 k00 ?_
  generalize (((((((((((((a.put o0.dst v0).put o1.dst v1).put o2.dst v2).put o3.dst v3).put o4.dst v4).put o5.dst v5).put o6.dst v6).put o7.dst v7).put o8.dst v8).put o9.dst v9).put o10.dst v10).put o11.dst v11).put o12.dst v12) = B at *
  have wc : ∀ y, Region.wanted o13 y = true := fun y => by unfold Region.wanted; rw [gc]
  have wal : ∀ y, Region.wanted o17 y = true := fun y => by unfold Region.wanted; rw [gal]
  have wst : ∀ y, Region.wanted o18 y = true := fun y => by unfold Region.wanted; rw [gst]
  have tail : ∀ (g : Nat) (w0 : World), w.heap.size ≤ g → Kept [] w w0 → w0.heap[g]? = some (.cells Z ty (0, 0)) → wpAnyH P .any #[o0, o1, o2, o3, o4, o5, o6, o7, o8, o9, o10, o11, o12, o13, o14, o15, o16, o17, o18, o19] (NoPanic Q) (fun w' => Kept [] w w') 2 #[true, true, true, true, true, true, true, true, true, true, true, true, true, true, true, true, true, true, false, false] (((((B.put o13.dst v13).put o14.dst v14).put o15.dst v15).put o16.dst v16).put o17.dst (.pointer (some ⟨g, 0, none⟩))) w0 := by
    intro g w0 hg k0 hz
    refine wpAnyH_ready (rs := [18]) rst (by simp) (AllReadyH.cons (o := o18) rfl (fun K hK => ?_) AllReadyH.nil)
    rw [if_pos (wst _)]
    have k1 := k0.setRow (Or.inr hg) cs
    refine hst g w0 K hz (hK.out _ _ k1 (fun _ => ?_))
    refine wpAnyH_take (i := 19) (oi := o19) rfl hs f19 r19 (fun _ _ _ h => h) (hyl g) k1 ?_
    exact ⟨rr, NoPanic.normal (h g _ hg k1 (setRow_heap _ _ _ _ _ _ hz))⟩
  refine wpAnyH_ready (rs := [13, 17]) qs (by simp) (AllReadyH.cons (o := o13) rfl (fun K hK => ?_) (AllReadyH.cons (o := o17) rfl (fun K hK => ?_) AllReadyH.nil))
  · rw [if_pos (wc _)]
    refine kcA _ k00 K (fun w1 k1 => hK.out _ _ (k00.trans k1 (by simp)) (fun _ => ?_))
    have k2 := k00.trans k1 (by simp)
    clear hK
    refine wpAnyH_take (i := 14) (oi := o14) rfl hs fA14 rA14 (fun _ _ _ h => h) hA14 k2 ?_
    refine wpAnyH_take (i := 15) (oi := o15) rfl hs fA15 rA15 (fun _ _ _ h => h) hA15 k2 ?_
    refine wpAnyH_take (i := 16) (oi := o16) rfl hs fA16 rA16 (fun _ _ _ h => h) hA16 k2 ?_
    refine wpAnyH_ready (rs := [17]) rAal (by simp) (AllReadyH.cons (o := o17) rfl (fun K hK => ?_) AllReadyH.nil)
    rw [if_pos (wal _)]
    refine hal _ _ K (hK.out _ _ (k2.alloc _) (fun _ => ?_))
    exact tail w1.heap.size _ k2.size (k2.alloc _) (heap_alloc_new _ _)
  · rw [if_pos (wal _)]
    refine hal _ _ K (hK.out _ _ (k00.alloc _) (fun _ => ?_))
    clear hK
    refine wpAnyH_ready (rs := [13]) rBc (by simp) (AllReadyH.cons (o := o13) rfl (fun K hK => ?_) AllReadyH.nil)
    rw [if_pos (wc _)]
    refine kcB _ _ (k00.alloc _) K (fun w1 k1 => hK.out _ _ ((k00.alloc _).trans k1 (by simp)) (fun _ => ?_))
    have k2 := (k00.alloc (.cells Z ty)).trans k1 (by simp)
    have hz := k1.heap (heap_alloc_new w.drew (.cells Z ty)) (by simp)
    clear hK
    refine wpAnyH_take (i := 14) (oi := o14) rfl hs fB14 rB14 (fun _ _ _ h => h) (hB14 _) k2 ?_
    refine wpAnyH_take (i := 15) (oi := o15) rfl hs fB15 rB15 (fun _ _ _ h => h) (hB15 _) k2 ?_
    refine wpAnyH_take (i := 16) (oi := o16) rfl hs fB16 rB16 (fun _ _ _ h => h) (hB16 _) k2 ?_
    rw [Act.put_comm _ _ _ ne13]; rw [Act.put_comm _ _ _ ne14]; rw [Act.put_comm _ _ _ ne15]; rw [Act.put_comm _ _ _ ne16]
    exact tail w.drew.heap.size _ (Nat.le_refl _) k2 hz
end
end Go.Proofs.YtjafmnemobcipaaDoor
namespace Go.Proofs.YtjafmnemobcipaaDoor
open Go.RowKit Go.BigFrame
set_option linter.unusedVariables false
set_option linter.unusedSimpArgs false

theorem sunD_dg (e : Nat) (z : Int) (p : List Nat) : Dg (sunD e z p) := ⟨sunD_len _ _ _, by
  unfold sunD sumD
  split
  · split
    · exact cutL_byte _ _ (hash_byte _)
    · intro x hx; simp at hx; omega
  · intro x hx; simp at hx; omega⟩
theorem sumD_dg (z : Int) (p : List Nat) : Dg (sumD z p) := ⟨sumD_len _ _, by
  unfold sumD
  split
  · exact cutL_byte _ _ (hash_byte _)
  · intro x hx; simp at hx; omega⟩
theorem RdS.nil (w : World) : RdS w (.slice none 0 0) [] := ⟨none, 0, 0, [], rfl, rfl, Nat.le_refl _, by omega, fun i hi => by omega, fun h => by omega⟩
theorem RdS.less {w : World} {ao : Option Addr} {n c : Nat} {ss : List (Nat × List (List Nat))} (h : RdS w (.slice ao n c) ss) (m : Nat) (hm : m ≤ n) : RdS w (.slice ao m c) (ss.take m) := by
  obtain ⟨_, _, _, vs, he, h1, h2, h3, h4, h5⟩ := h
  cases he
  refine ⟨_, m, c, vs, rfl, by simp [h1]; omega, by omega, h3, fun i hi => ?_, fun hp => ?_⟩
  · have := h4 i (by omega)
    rw [List.getD_eq_getElem?_getD, List.getElem?_take_of_lt hi, ← List.getD_eq_getElem?_getD]
    exact this
  · obtain ⟨b, off, e, hc⟩ := h5 (by omega)
    refine ⟨b, off, e, fun i hi => ?_⟩
    rw [List.getD_eq_getElem?_getD, List.getElem?_take_of_lt hi, ← List.getD_eq_getElem?_getD]
    exact hc i (by omega)

theorem wp_branch {o : Oper} {a : Act} {w : World} {K : Act → World → Prop} {Q : Exit → Act → World → Prop} (x0 x1 x2 : Operand) (ts : Array TypeId) (ho : o.op = .call { callee := .value (.func 40), args := #[x0, x1, x2], argTypes := ts }) (u0 u1 u2 v : Value) (e0 : a.eval x0 = u0) (e1 : a.eval x1 = u1) (e2 : a.eval x2 = u2)
    (hc : Calls Tryd.prog 40 #[u0, u1, u2] w fun e w' => e = .returned v ∧ Kept [] w w') (h : ∀ w1, Kept [] w w1 → K (a.put o.dst v) w1) : o.wp Tryd.prog a w K Q := by
  unfold Oper.wp execOp
  simp only [ho]
  have hf : a.eval (.func 40) = .func (.func 40) #[] #[] := rfl
  have hcl : ∀ args W, (callFunc 40 args).run Tryd.prog W = .ok (.enter 40 args) W := fun args W => Tryd.call40 args W
  simp only [resolve, invoke, hf, e0, e1, e2, Sem.run_bind, Sem.run_pure, Result.andThen_ok, List.map_toArray, List.map_cons, List.map_nil, hcl]
  simp [Deferred.ofValue, hcl, go_sem]
  refine hc.mono ?_
  rintro e w2 ⟨rfl, k2⟩
  exact h w2 k2

set_option maxRecDepth 100000 in
set_option maxHeartbeats 4000000 in
theorem foot_any (z : Int) (sv pv : Value) (ss : List (Nat × List (List Nat))) (ps : List (List Nat × List Nat)) (w : World) (hw : widthB z = true) (hs : RdS w sv ss) (hp : RdK w pv ps) (hT : Tabs w) (hpb : (pairB ps).length ≤ 1000000000000) :
    Calls Tryd.prog 38 #[.int .i64 z, .agg #[sv, pv]] w fun e w' => (∃ v', e = .returned (.tuple #[.agg (brow (footD z ss ps)), v']) ∧ RdS w' v' (ss.take (footN ss ps))) ∧ Kept [] w w' := by
  obtain ⟨sa, sn, sc, vs0, rfl, _⟩ := id hs
  obtain ⟨pa, pn, pc, _, _, rfl, _⟩ := id hp
  obtain ⟨h1, h2, h3, h4⟩ := hs.cells
  obtain ⟨g1, g2, g3, g4⟩ := hp.cells
  have H4 := hide h4
  have HP := hide hp
  have HS := hide hs
  have HT := hide hT
  have hz : 1 ≤ z ∧ z ≤ 32 := width_le hw
  clear h4 g4 hp hs hT
  subst h1
  subst g1
  have HK0 := hide (((Kept.refl [] w).alloc (.cells #[.slice sa ss.length sc, .slice pa ps.length pc] 26)).alloc (.cells (zb 32) 29))
  have HG0 := hide (heap_alloc2_old w (.cells #[.slice sa ss.length sc, .slice pa ps.length pc] 26) (.cells (zb 32) 29))
  have HZ0 := hide (heap_alloc2_new w (.cells #[.slice sa ss.length sc, .slice pa ps.length pc] 26) (.cells (zb 32) 29))
  obtain ⟨W, hW⟩ : ∃ W, (w.alloc (.cells #[.slice sa ss.length sc, .slice pa ps.length pc] 26)).alloc (.cells (zb 32) 29) = W := ⟨_, rfl⟩
  rw [hW] at HK0 HG0 HZ0
  have c0 : W.cell? ⟨w.heap.size, 0, none⟩ = some (.slice sa ss.length sc) := cell_of_row W w.heap.size 0 _ _ _ (unhide HG0)
  have c1 : W.cell? ⟨w.heap.size, 1, none⟩ = some (.slice pa ps.length pc) := cell_of_row W w.heap.size 1 _ _ _ (unhide HG0)
  go_enter Tryd.func38, Tryd.ntmps38
  by_cases hp0 : 0 < ps.length
  · have hp0' : (0 : Int) < ps.length := by omega
    have HD := hide (by unfold footD; rw [if_pos hp0] : footD z ss ps = sumD z (buckB ps))
    have HN := hide (by unfold footN; rw [if_pos hp0, List.take_length] : ss.take (footN ss ps) = ss)
    clear hp0
    go_wp2_with (first | (rw [zb32, hW]))
    clear hW
    refine Calls.mono (bucket_all z _ ps _ (by omega) ((unhide HP).old (unhide HK0)) hpb ((unhide HT).k (unhide HK0))) ?_
    rintro e w1 ⟨rfl, k1⟩
    have HDG := hide (sumD_dg z (buckB ps))
    generalize sumD z (buckB ps) = D at HD HDG ⊢
    have hd := (unhide HDG).1
    have kN := (k1.alloc (.cells (zb 32) 29)).setRow (g := w1.heap.size) (Or.inr k1.size) (brow D)
    have HN1 := hide (setRow_heap (w1.alloc (.cells (zb 32) 29)) w1.heap.size (zb 32) (brow D) 29 (0, 0) (heap_alloc_new _ _))
    have HK1 := hide ((unhide HK0).trans kN (by simp))
    have HZ1 := hide (kN.heap (unhide HZ0) (by simp))
    have d0 := kN.cell c0 (by simp)
    have HSZ := hide (Tryd.szD hd)
    have HLT := hide (Nat.lt_of_lt_of_le (lt_of_block (unhide HZ0)) k1.size : w.heap.size + 1 < w1.heap.size)
    clear kN k1 c0 c1 HK0 HZ0 HG0
    go_wp2_with (first
      | (rw [zb32]; refine wpList_store_row rfl 29 _ _ rfl w1.heap.size (brow D) rfl rfl _ (zb 32) (heap_alloc_new _ _) (unhide HSZ) (by rw [zb_size, brow_size, hd]) (brow_one _) ?_)
      | (refine wpList_load_row rfl 29 _ rfl w1.heap.size rfl _ (brow D) (0, 0) _ (unhide HN1) Tryd.underlying29 rfl (unhide HSZ) ?_)
      | (refine wpList_store_row rfl 29 _ _ rfl (w.heap.size + 1) (brow D) rfl rfl _ (zb 32) (unhide HZ1) (unhide HSZ) (by rw [zb_size, brow_size, hd]) (brow_one _) ?_))
    obtain ⟨X, hX⟩ : ∃ X, (w1.alloc (.cells (zb 32) 29)).setRow w1.heap.size (brow D) = X := ⟨_, rfl⟩
    rw [hX] at HN1 HK1 HZ1 d0 ⊢
    clear hX
    refine wp_rs5 (fun w' => Kept [w.heap.size + 1] X w') (by kernel_rfl) (by kernel_rfl) (by kernel_rfl) (by kernel_rfl) (by kernel_rfl) (by kernel_rfl) (by kernel_rfl) (by kernel_rfl) (by kernel_rfl) (by kernel_rfl) (by kernel_rfl) (by kernel_rfl) rfl ((Kept.refl _ X).drew)
      (.agg (D.map u8).toArray) (.pointer (some ⟨w.heap.size, 0, none⟩)) (.slice sa ss.length sc) (.slice sa ss.length sc) _ _ _ _ (by simp only [Act.put, List.setIfInBounds_toArray, List.set_cons_zero, List.set_cons_succ]; rfl) (by simp only [Act.put, List.setIfInBounds_toArray, List.set_cons_zero, List.set_cons_succ]; rfl) (by simp only [Act.put, List.setIfInBounds_toArray, List.set_cons_zero, List.set_cons_succ]; rfl) (by simp only [Act.put, List.setIfInBounds_toArray, List.set_cons_zero, List.set_cons_succ]; rfl)
      (by exact yieldsIf_load_mid (by rfl) _ _ rfl w1.heap.size 0 rfl (D.map u8) _ (fun W' hW' => range_row (hW'.heap (unhide HN1) (by simp; have := unhide HLT; omega))) Tryd.underlying29 rfl (by rw [List.length_map, hd]; exact Tryd.size_dig))
      (by exact Or.inl ⟨by rfl, fun W' hW' => by go_simp⟩)
      (by exact Or.inl ⟨by rfl, fun W' hW' => by have h9 := hW'.cell d0 (by simp); go_simp⟩)
      (by exact Or.inl ⟨by rfl, fun W' hW' => by go_simp⟩)
      (X.drew.setRow (w.heap.size + 1) (brow D))
      (by intro K hK; exact wp_store_row 29 _ _ rfl (w.heap.size + 1) (brow D) rfl rfl _ (zb 32) (unhide HZ1) (unhide HSZ) (by rw [zb_size, brow_size, hd]) (brow_one _) hK)
      ((Kept.refl _ X).drew.setRow (Or.inl (by simp)) _) ?_
    have HKF := hide ((unhide HK1).drew.setRow (g := w.heap.size + 1) (Or.inr (by omega)) (brow D))
    have HZF := hide (setRow_heap X.drew (w.heap.size + 1) (zb 32) (brow D) 29 (0, 0) (unhide HZ1))
    go_wp2_with fail
    rw [unhide HD, unhide HN]
    refine bodyPost_ret (v := .tuple #[.agg (brow D), .slice sa ss.length sc]) ?_ rfl ⟨⟨_, rfl, (unhide HS).old (unhide HKF)⟩, unhide HKF⟩
    exact results_cell_tmp rfl _ _ (w.heap.size + 1) _ (brow D) (0, 0) _ rfl (unhide HZF) Tryd.underlying29 rfl (unhide HSZ) _ rfl
  · have hp0' : ¬ (0 : Int) < ps.length := by omega
    by_cases hs0 : ss.length = 0
    · have hs0' : (ss.length : Int) = 0 := by omega
      have HD := hide (by unfold footD; rw [if_neg hp0, if_pos hs0] : footD z ss ps = sumD z [5])
      have HN := hide (by have h9 : ss = [] := List.eq_nil_of_length_eq_zero hs0
                          rw [h9]; simp : ss.take (footN ss ps) = [])
      clear hp0 hs0
      go_wp2_with (first | (rw [zb32, hW]))
      clear hW
      refine Calls.mono (nomap_all z _ (by omega) ((unhide HT).k (unhide HK0))) ?_
      rintro e w1 ⟨rfl, k1⟩
      have HDG := hide (sumD_dg z [5])
      generalize sumD z [5] = D at HD HDG ⊢
      have hd := (unhide HDG).1
      have kN := (k1.alloc (.cells (zb 32) 29)).setRow (g := w1.heap.size) (Or.inr k1.size) (brow D)
      have HN1 := hide (setRow_heap (w1.alloc (.cells (zb 32) 29)) w1.heap.size (zb 32) (brow D) 29 (0, 0) (heap_alloc_new _ _))
      have HK1 := hide ((unhide HK0).trans kN (by simp))
      have HZ1 := hide (kN.heap (unhide HZ0) (by simp))
      have d0 := kN.cell c0 (by simp)
      have HSZ := hide (Tryd.szD hd)
      have HLT := hide (Nat.lt_of_lt_of_le (lt_of_block (unhide HZ0)) k1.size : w.heap.size + 1 < w1.heap.size)
      clear kN k1 c0 c1 HK0 HZ0 HG0
      go_wp2_with (first
        | (rw [zb32]; refine wpList_store_row rfl 29 _ _ rfl w1.heap.size (brow D) rfl rfl _ (zb 32) (heap_alloc_new _ _) (unhide HSZ) (by rw [zb_size, brow_size, hd]) (brow_one _) ?_)
        | (refine wpList_load_row rfl 29 _ rfl w1.heap.size rfl _ (brow D) (0, 0) _ (unhide HN1) Tryd.underlying29 rfl (unhide HSZ) ?_)
        | (refine wpList_store_row rfl 29 _ _ rfl (w.heap.size + 1) (brow D) rfl rfl _ (zb 32) (unhide HZ1) (unhide HSZ) (by rw [zb_size, brow_size, hd]) (brow_one _) ?_))
      have HKF := hide ((unhide HK1).setRow (g := w.heap.size + 1) (Or.inr (by omega)) (brow D))
      have HZF := hide (setRow_heap ((w1.alloc (.cells (zb 32) 29)).setRow w1.heap.size (brow D)) (w.heap.size + 1) (zb 32) (brow D) 29 (0, 0) (unhide HZ1))
      rw [unhide HD, unhide HN]
      refine bodyPost_ret (v := .tuple #[.agg (brow D), .slice none 0 0]) ?_ rfl ⟨⟨_, rfl, RdS.nil _⟩, unhide HKF⟩
      exact results_cell_tmp rfl _ _ (w.heap.size + 1) _ (brow D) (0, 0) _ rfl (unhide HZF) Tryd.underlying29 rfl (unhide HSZ) _ rfl
    · have hs0' : ¬ (ss.length : Int) = 0 := by omega
      have HD := hide (by unfold footD; rw [if_neg hp0, if_neg hs0]; rfl : footD z ss ps = sunD (branchE z (ss.getD (ss.length - 1) (0, [])).1 (ss.getD (ss.length - 1) (0, [])).2) z (branchB z (ss.getD (ss.length - 1) (0, [])).1 (ss.getD (ss.length - 1) (0, [])).2))
      have HN := hide (by unfold footN; rw [if_neg hp0] : ss.take (footN ss ps) = ss.take (ss.length - 1))
      obtain ⟨L, hL⟩ : ∃ L, ss.length - 1 = L := ⟨_, rfl⟩
      have hsub : (ss.length : Int) - 1 = (L : Int) := by omega
      have hLlt : L < ss.length := by omega
      have hLl : (L : Int) < ss.length := by omega
      obtain ⟨b, o, v, rfl, e1, e2, hsb, r2⟩ := unhide H4 L hLlt
      rw [hL] at HD HN
      have q1 := (unhide HK0).cell e1 (by simp)
      have q2 := (unhide HK0).cell e2 (by simp)
      have HX := hide (r2.old (unhide HK0))
      clear e1 e2 r2 hL hp0 hs0
      generalize ss.getD L (0, []) = s at q1 hsb HD HX
      obtain ⟨sb, sk⟩ := s
      simp only at q1 hsb HD HX
      obtain ⟨a8, m8, c8, rfl, hm8, _⟩ := id (unhide HX)
      subst hm8
      have hLc : (L : Int) ≤ sc := by omega
      have hL0 : (0 : Int) ≤ L := by omega
      go_wp2_with (first | (rw [zb32, hW]))
      clear hW
      have HCT := hide (fun w0 (hw0 : Kept [] W w0) => branch_all z sb (.slice a8 sk.length c8) sk w0 (by omega) hsb ((unhide HX).old hw0) ((unhide HT).k ((unhide HK0).trans hw0 (by simp))))
      have HDG := hide (sunD_dg (branchE z sb sk) z (branchB z sb sk))
      generalize sunD (branchE z sb sk) z (branchB z sb sk) = D at HD HDG HCT
      generalize sunE (branchE z sb sk) z = E at HCT
      have hd := (unhide HDG).1
      have HSZ := hide (Tryd.szD hd)
      refine wp_call20 (by kernel_rfl) (by kernel_rfl) (by kernel_rfl) (by kernel_rfl) (by kernel_rfl) (by kernel_rfl) (by kernel_rfl) (by kernel_rfl) (by kernel_rfl) (by kernel_rfl) (by kernel_rfl) (by kernel_rfl) (by kernel_rfl) (by kernel_rfl) (by kernel_rfl) (by kernel_rfl) (by kernel_rfl) (by kernel_rfl) (by kernel_rfl) (by kernel_rfl) (by kernel_rfl) (by kernel_rfl) (by kernel_rfl) (by kernel_rfl) (by kernel_rfl) (by kernel_rfl) (by kernel_rfl) (by kernel_rfl) (by kernel_rfl) (by kernel_rfl) (by kernel_rfl) (by kernel_rfl) (by kernel_rfl) (by kernel_rfl) (by kernel_rfl) (by kernel_rfl) (by kernel_rfl) (by kernel_rfl) (by kernel_rfl) (by kernel_rfl) (by kernel_rfl) (by kernel_rfl) (by kernel_rfl) (by kernel_rfl) (by kernel_rfl) (by kernel_rfl) (by kernel_rfl) rfl rfl rfl
        (.int .i64 z) (.pointer (some ⟨w.heap.size, 0, none⟩)) (.slice (some ⟨b, o, none⟩) ss.length sc) (.int .i64 L) (.pointer (some ⟨b, o + L * 2, none⟩)) (.pointer (some ⟨b, o + L * 2, none⟩)) (.int .u16 sb) (.pointer (some ⟨w.heap.size, 0, none⟩)) (.slice (some ⟨b, o, none⟩) ss.length sc) (.int .i64 L) (.pointer (some ⟨b, o + L * 2, none⟩)) (.pointer (some ⟨b, o + L * 2 + 1, none⟩)) (.slice a8 sk.length c8) (.tuple #[.agg (brow D), .int .i64 (E : Int)]) (.tuple #[.agg (brow D), .int .i64 (E : Int)]) (.agg (brow D)) (.int .i64 (E : Int)) (.int .i64 (E : Int)) _ _ _ _ _ _ _ _ _ _ _ _ _ (by simp only [Act.put, List.setIfInBounds_toArray, List.set_cons_zero, List.set_cons_succ]; rfl) (by simp only [Act.put, List.setIfInBounds_toArray, List.set_cons_zero, List.set_cons_succ]; rfl) (by simp only [Act.put, List.setIfInBounds_toArray, List.set_cons_zero, List.set_cons_succ]; rfl) (by simp only [Act.put, List.setIfInBounds_toArray, List.set_cons_zero, List.set_cons_succ]; rfl) (by simp only [Act.put, List.setIfInBounds_toArray, List.set_cons_zero, List.set_cons_succ]; rfl) (by simp only [Act.put, List.setIfInBounds_toArray, List.set_cons_zero, List.set_cons_succ]; rfl) (by simp only [Act.put, List.setIfInBounds_toArray, List.set_cons_zero, List.set_cons_succ]; rfl) (by simp only [Act.put, List.setIfInBounds_toArray, List.set_cons_zero, List.set_cons_succ]; rfl) (by simp only [Act.put, List.setIfInBounds_toArray, List.set_cons_zero, List.set_cons_succ]; rfl) (by simp only [Act.put, List.setIfInBounds_toArray, List.set_cons_zero, List.set_cons_succ]; rfl) (by simp only [Act.put, List.setIfInBounds_toArray, List.set_cons_zero, List.set_cons_succ]; rfl) (by simp only [Act.put, List.setIfInBounds_toArray, List.set_cons_zero, List.set_cons_succ]; rfl) (by simp only [Act.put, List.setIfInBounds_toArray, List.set_cons_zero, List.set_cons_succ]; rfl)
        (by exact Or.inl ⟨by rfl, fun W' hW' => by go_simp⟩)
        (by exact Or.inl ⟨by rfl, fun W' hW' => by go_simp⟩)
        (by exact Or.inl ⟨by rfl, fun W' hW' => by have h9 := hW'.cell c0 (by simp); go_simp⟩)
        (by exact Or.inl ⟨by rfl, fun W' hW' => by go_simp⟩)
        (by exact Or.inl ⟨by rfl, fun W' hW' => by go_simp⟩)
        (by exact Or.inl ⟨by rfl, fun W' hW' => by go_simp⟩)
        (by exact Or.inl ⟨by rfl, fun W' hW' => by have h9 := hW'.cell q1 (by simp); go_simp⟩)
        (by exact Or.inl ⟨by rfl, fun W' hW' => by go_simp⟩)
        (by exact Or.inl ⟨by rfl, fun W' hW' => by have h9 := hW'.cell c0 (by simp); go_simp⟩)
        (by exact Or.inl ⟨by rfl, fun W' hW' => by go_simp⟩)
        (by exact Or.inl ⟨by rfl, fun W' hW' => by go_simp⟩)
        (by exact Or.inl ⟨by rfl, fun W' hW' => by go_simp⟩)
        (by exact Or.inl ⟨by rfl, fun W' hW' => by have h9 := hW'.cell q2 (by simp); go_simp⟩)
        (by intro w0 k0 K hK; exact wp_branch _ _ _ _ rfl _ _ _ _ rfl rfl rfl (unhide HCT w0 k0) hK)
        (by intro g w0 k0 K hK; exact wp_branch _ _ _ _ rfl _ _ _ _ rfl rfl rfl (unhide HCT w0 k0) hK)
        (by exact Or.inl ⟨by rfl, fun W' hW' => by go_simp⟩) (by intro g; exact Or.inl ⟨by rfl, fun W' hW' => by go_simp⟩) (by exact Or.inl ⟨by rfl, fun W' hW' => by go_simp⟩) (by intro g; exact Or.inl ⟨by rfl, fun W' hW' => by go_simp⟩) (by exact Or.inl ⟨by rfl, fun W' hW' => by go_simp⟩) (by intro g; exact Or.inl ⟨by rfl, fun W' hW' => by go_simp⟩)
        29 (zb 32) (brow D) (by intro a' w' K h; unfold Oper.wp execOp; go_simp; exact h)
        (by intro d h; cases h; simp) (by intro d h; cases h; simp) (by intro d h; cases h; simp) (by intro d h; cases h; simp)
        (by intro g w' K hh hK; simp only [Act.put, List.setIfInBounds_toArray, List.set_cons_zero, List.set_cons_succ] at hK ⊢; exact wp_store_row 29 (.tmp 11) (.tmp 56) rfl g (brow D) rfl rfl 29 (zb 32) hh (unhide HSZ) (by rw [zb_size, brow_size, hd]) (brow_one _) hK)
        (by intro g; exact Or.inl ⟨by rfl, fun W' hW' => by go_simp⟩) ?_
      intro g X hg kX hX
      simp only [Act.put, List.setIfInBounds_toArray, List.set_cons_zero, List.set_cons_succ]
      have HK1 := hide ((unhide HK0).trans kX (by simp))
      have HN1 := hide hX
      have HZ1 := hide (kX.heap (unhide HZ0) (by simp))
      have d0 := kX.cell c0 (by simp)
      have HLT := hide (Nat.lt_of_lt_of_le (lt_of_block (unhide HZ0)) hg : w.heap.size + 1 < g)
      clear kX hX hg c0 c1 HK0 HZ0 HG0 q1 q2
      go_wp2_with fail
      refine wp_rs7 (fun w' => Kept [w.heap.size + 1] X w') (by kernel_rfl) (by kernel_rfl) (by kernel_rfl) (by kernel_rfl) (by kernel_rfl) (by kernel_rfl) (by kernel_rfl) (by kernel_rfl) (by kernel_rfl) (by kernel_rfl) (by kernel_rfl) (by kernel_rfl) (by kernel_rfl) (by kernel_rfl) (by kernel_rfl) (by kernel_rfl) rfl ((Kept.refl _ X).drew)
        (.agg (D.map u8).toArray) (.pointer (some ⟨w.heap.size, 0, none⟩)) (.slice (some ⟨b, o, none⟩) ss.length sc) (.int .i64 L) (.slice (some ⟨b, o, none⟩) L sc) (.slice (some ⟨b, o, none⟩) L sc) _ _ _ _ _ _ (by simp only [Act.put, List.setIfInBounds_toArray, List.set_cons_zero, List.set_cons_succ]; rfl) (by simp only [Act.put, List.setIfInBounds_toArray, List.set_cons_zero, List.set_cons_succ]; rfl) (by simp only [Act.put, List.setIfInBounds_toArray, List.set_cons_zero, List.set_cons_succ]; rfl) (by simp only [Act.put, List.setIfInBounds_toArray, List.set_cons_zero, List.set_cons_succ]; rfl) (by simp only [Act.put, List.setIfInBounds_toArray, List.set_cons_zero, List.set_cons_succ]; rfl) (by simp only [Act.put, List.setIfInBounds_toArray, List.set_cons_zero, List.set_cons_succ]; rfl)
        (by exact yieldsIf_load_mid (by rfl) _ _ rfl g 0 rfl (D.map u8) _ (fun W' hW' => range_row (hW'.heap (unhide HN1) (by simp; have := unhide HLT; omega))) Tryd.underlying29 rfl (by rw [List.length_map, hd]; exact Tryd.size_dig))
        (by exact Or.inl ⟨by rfl, fun W' hW' => by go_simp⟩)
        (by exact Or.inl ⟨by rfl, fun W' hW' => by have h9 := hW'.cell d0 (by simp); go_simp⟩)
        (by exact Or.inl ⟨by rfl, fun W' hW' => by go_simp⟩)
        (by exact Or.inl ⟨by rfl, fun W' hW' => by go_simp⟩)
        (by exact Or.inl ⟨by rfl, fun W' hW' => by go_simp⟩)
        (X.drew.setRow (w.heap.size + 1) (brow D))
        (by intro K hK; exact wp_store_row 29 _ _ rfl (w.heap.size + 1) (brow D) rfl rfl _ (zb 32) (unhide HZ1) (unhide HSZ) (by rw [zb_size, brow_size, hd]) (brow_one _) hK)
        ((Kept.refl _ X).drew.setRow (Or.inl (by simp)) _) ?_
      have HKF := hide ((unhide HK1).drew.setRow (g := w.heap.size + 1) (Or.inr (by omega)) (brow D))
      have HZF := hide (setRow_heap X.drew (w.heap.size + 1) (zb 32) (brow D) 29 (0, 0) (unhide HZ1))
      go_wp2_with fail
      rw [unhide HD, unhide HN]
      refine bodyPost_ret (v := .tuple #[.agg (brow D), .slice (some ⟨b, o, none⟩) L sc]) ?_ rfl ⟨⟨_, rfl, ((unhide HS).less L (by omega)).old (unhide HKF)⟩, unhide HKF⟩
      exact results_cell_tmp rfl _ _ (w.heap.size + 1) _ (brow D) (0, 0) _ rfl (unhide HZF) Tryd.underlying29 rfl (unhide HSZ) _ rfl
end Go.Proofs.YtjafmnemobcipaaDoor
/-
  A drawn region: reads, then operations in one order alone, then an assign. By genbld.py. No program.
-/
namespace Go.Proofs.YtjafmnemobcipaaDoor
open Go Go.RowKit Go.BigFrame
set_option linter.unusedVariables false
set_option linter.unusedSimpArgs false
section
variable {P : Program} {Q : Exit → Act → World → Prop}
theorem wp_bld13 {id : Nat} {o0 o1 o2 o3 o4 o5 o6 o7 o8 o9 o10 o11 o12 : Oper} {a : Act} {w : World} (hm : P.follows .mixedOrders = true) (hs : Region.noSelect #[o0, o1, o2, o3, o4, o5, o6, o7, o8, o9, o10, o11, o12] = true)
    (f0 : Region.free .any #[o0, o1, o2, o3, o4, o5, o6, o7, o8, o9, o10, o11, o12] #[false, false, false, false, false, false, false, false, false, false, false, false, false] 0 = true) (r0 : (Region.ready .any #[o0, o1, o2, o3, o4, o5, o6, o7, o8, o9, o10, o11, o12] #[false, false, false, false, false, false, false, false, false, false, false, false, false]).contains 0 = true)
    (f1 : Region.free .any #[o0, o1, o2, o3, o4, o5, o6, o7, o8, o9, o10, o11, o12] #[true, false, false, false, false, false, false, false, false, false, false, false, false] 1 = true) (r1 : (Region.ready .any #[o0, o1, o2, o3, o4, o5, o6, o7, o8, o9, o10, o11, o12] #[true, false, false, false, false, false, false, false, false, false, false, false, false]).contains 1 = true)
    (f2 : Region.free .any #[o0, o1, o2, o3, o4, o5, o6, o7, o8, o9, o10, o11, o12] #[true, true, false, false, false, false, false, false, false, false, false, false, false] 2 = true) (r2 : (Region.ready .any #[o0, o1, o2, o3, o4, o5, o6, o7, o8, o9, o10, o11, o12] #[true, true, false, false, false, false, false, false, false, false, false, false, false]).contains 2 = true)
    (f3 : Region.free .any #[o0, o1, o2, o3, o4, o5, o6, o7, o8, o9, o10, o11, o12] #[true, true, true, false, false, false, false, false, false, false, false, false, false] 3 = true) (r3 : (Region.ready .any #[o0, o1, o2, o3, o4, o5, o6, o7, o8, o9, o10, o11, o12] #[true, true, true, false, false, false, false, false, false, false, false, false, false]).contains 3 = true)
    (f4 : Region.free .any #[o0, o1, o2, o3, o4, o5, o6, o7, o8, o9, o10, o11, o12] #[true, true, true, true, false, false, false, false, false, false, false, false, false] 4 = true) (r4 : (Region.ready .any #[o0, o1, o2, o3, o4, o5, o6, o7, o8, o9, o10, o11, o12] #[true, true, true, true, false, false, false, false, false, false, false, false, false]).contains 4 = true)
    (f6 : Region.free .any #[o0, o1, o2, o3, o4, o5, o6, o7, o8, o9, o10, o11, o12] #[true, true, true, true, true, false, false, false, false, false, false, false, false] 6 = true) (r6 : (Region.ready .any #[o0, o1, o2, o3, o4, o5, o6, o7, o8, o9, o10, o11, o12] #[true, true, true, true, true, false, false, false, false, false, false, false, false]).contains 6 = true)
    (f7 : Region.free .any #[o0, o1, o2, o3, o4, o5, o6, o7, o8, o9, o10, o11, o12] #[true, true, true, true, true, false, true, false, false, false, false, false, false] 7 = true) (r7 : (Region.ready .any #[o0, o1, o2, o3, o4, o5, o6, o7, o8, o9, o10, o11, o12] #[true, true, true, true, true, false, true, false, false, false, false, false, false]).contains 7 = true)
    (f8 : Region.free .any #[o0, o1, o2, o3, o4, o5, o6, o7, o8, o9, o10, o11, o12] #[true, true, true, true, true, false, true, true, false, false, false, false, false] 8 = true) (r8 : (Region.ready .any #[o0, o1, o2, o3, o4, o5, o6, o7, o8, o9, o10, o11, o12] #[true, true, true, true, true, false, true, true, false, false, false, false, false]).contains 8 = true)
    (f9 : Region.free .any #[o0, o1, o2, o3, o4, o5, o6, o7, o8, o9, o10, o11, o12] #[true, true, true, true, true, false, true, true, true, false, false, false, false] 9 = true) (r9 : (Region.ready .any #[o0, o1, o2, o3, o4, o5, o6, o7, o8, o9, o10, o11, o12] #[true, true, true, true, true, false, true, true, true, false, false, false, false]).contains 9 = true)
    (r5 : Region.ready .any #[o0, o1, o2, o3, o4, o5, o6, o7, o8, o9, o10, o11, o12] #[true, true, true, true, true, false, true, true, true, true, false, false, false] = [5])
    (r10 : Region.ready .any #[o0, o1, o2, o3, o4, o5, o6, o7, o8, o9, o10, o11, o12] #[true, true, true, true, true, true, true, true, true, true, false, false, false] = [10])
    (r11 : Region.ready .any #[o0, o1, o2, o3, o4, o5, o6, o7, o8, o9, o10, o11, o12] #[true, true, true, true, true, true, true, true, true, true, true, false, false] = [11])
    (f12 : Region.free .any #[o0, o1, o2, o3, o4, o5, o6, o7, o8, o9, o10, o11, o12] #[true, true, true, true, true, true, true, true, true, true, true, true, false] 12 = true) (r12 : (Region.ready .any #[o0, o1, o2, o3, o4, o5, o6, o7, o8, o9, o10, o11, o12] #[true, true, true, true, true, true, true, true, true, true, true, true, false]).contains 12 = true)
    (rr : Region.ready .any #[o0, o1, o2, o3, o4, o5, o6, o7, o8, o9, o10, o11, o12] #[true, true, true, true, true, true, true, true, true, true, true, true, true] = []) (g5 : o5.guard = none) (g10 : o10.guard = none) (g11 : o11.guard = none)
    (v0 v1 v2 v3 v4 v6 v7 v8 v9 : Value) (A0 A1 A2 A3 A4 A6 A7 A8 A9 : Act)
    (p0 : a.put o0.dst v0 = A0) (p1 : A0.put o1.dst v1 = A1) (p2 : A1.put o2.dst v2 = A2) (p3 : A2.put o3.dst v3 = A3) (p4 : A3.put o4.dst v4 = A4) (p6 : A4.put o6.dst v6 = A6) (p7 : A6.put o7.dst v7 = A7) (p8 : A7.put o8.dst v8 = A8) (p9 : A8.put o9.dst v9 = A9) 
    (hy0 : YieldsIf P #[o0, o1, o2, o3, o4, o5, o6, o7, o8, o9, o10, o11, o12] (fun w' => Kept [] w w') o0 v0 a)
    (hy1 : YieldsIf P #[o0, o1, o2, o3, o4, o5, o6, o7, o8, o9, o10, o11, o12] (fun w' => Kept [] w w') o1 v1 A0)
    (hy2 : YieldsIf P #[o0, o1, o2, o3, o4, o5, o6, o7, o8, o9, o10, o11, o12] (fun w' => Kept [] w w') o2 v2 A1)
    (hy3 : YieldsIf P #[o0, o1, o2, o3, o4, o5, o6, o7, o8, o9, o10, o11, o12] (fun w' => Kept [] w w') o3 v3 A2)
    (hy4 : YieldsIf P #[o0, o1, o2, o3, o4, o5, o6, o7, o8, o9, o10, o11, o12] (fun w' => Kept [] w w') o4 v4 A3)
    (hy6 : YieldsIf P #[o0, o1, o2, o3, o4, o5, o6, o7, o8, o9, o10, o11, o12] (fun w' => Kept [] w w') o6 v6 A4)
    (hy7 : YieldsIf P #[o0, o1, o2, o3, o4, o5, o6, o7, o8, o9, o10, o11, o12] (fun w' => Kept [] w w') o7 v7 A6)
    (hy8 : YieldsIf P #[o0, o1, o2, o3, o4, o5, o6, o7, o8, o9, o10, o11, o12] (fun w' => Kept [] w w') o8 v8 A7)
    (hy9 : YieldsIf P #[o0, o1, o2, o3, o4, o5, o6, o7, o8, o9, o10, o11, o12] (fun w' => Kept [] w w') o9 v9 A8)
    (hF : o5.wp P A9 w.drew (fun a1 w1 => Kept [] w w1 ∧ o10.wp P a1 w1 (fun a2 w2 => Kept [] w w2 ∧ o11.wp P a2 w2 (fun a3 w3 => Kept [] w w3 ∧ ∃ v, YieldsIf P #[o0, o1, o2, o3, o4, o5, o6, o7, o8, o9, o10, o11, o12] (fun w' => Kept [] w w') o12 v a3 ∧ Q .normal (a3.put o12.dst v) w3) (NoPanic Q)) (NoPanic Q)) (NoPanic Q)) :
    (Code.region id #[o0, o1, o2, o3, o4, o5, o6, o7, o8, o9, o10, o11, o12] true).wp P Q a w := by
  subst p0 p1 p2 p3 p4 p6 p7 p8 p9
  have k00 : Kept [] w w.drew := (Kept.refl [] w).drew
  refine wp_region_noPanic ?_
  refine wp_region_held_drew (S := fun w' => Kept [] w w') hm k00 (fun hH => ?_)
  show wpAnyH P .any #[o0, o1, o2, o3, o4, o5, o6, o7, o8, o9, o10, o11, o12] (NoPanic Q) _ 13 #[false, false, false, false, false, false, false, false, false, false, false, false, false] a w.drew
  refine wpAnyH_take (i := 0) (oi := o0) rfl hs f0 r0 (fun _ _ _ h => h) hy0 k00 ?_
  refine wpAnyH_take (i := 1) (oi := o1) rfl hs f1 r1 (fun _ _ _ h => h) hy1 k00 ?_
  refine wpAnyH_take (i := 2) (oi := o2) rfl hs f2 r2 (fun _ _ _ h => h) hy2 k00 ?_
  refine wpAnyH_take (i := 3) (oi := o3) rfl hs f3 r3 (fun _ _ _ h => h) hy3 k00 ?_
  refine wpAnyH_take (i := 4) (oi := o4) rfl hs f4 r4 (fun _ _ _ h => h) hy4 k00 ?_
  refine wpAnyH_take (i := 6) (oi := o6) rfl hs f6 r6 (fun _ _ _ h => h) hy6 k00 ?_
  refine wpAnyH_take (i := 7) (oi := o7) rfl hs f7 r7 (fun _ _ _ h => h) hy7 k00 ?_
  refine wpAnyH_take (i := 8) (oi := o8) rfl hs f8 r8 (fun _ _ _ h => h) hy8 k00 ?_
  refine wpAnyH_take (i := 9) (oi := o9) rfl hs f9 r9 (fun _ _ _ h => h) hy9 k00 ?_
  refine wpAnyH_ready (rs := [5]) r5 (by simp) (AllReadyH.cons (o := o5) rfl (fun K hK => ?_) AllReadyH.nil)
  have q5 : ∀ y, Region.wanted o5 y = true := fun y => by unfold Region.wanted; rw [g5]
  rw [if_pos (q5 _)]
  refine Oper.wp_mono (fun a1 w1 h1 => hK.out _ _ h1.1 (fun _ => ?_)) hF
  clear hK
  refine wpAnyH_ready (rs := [10]) r10 (by simp) (AllReadyH.cons (o := o10) rfl (fun K hK => ?_) AllReadyH.nil)
  have q10 : ∀ y, Region.wanted o10 y = true := fun y => by unfold Region.wanted; rw [g10]
  rw [if_pos (q10 _)]
  refine Oper.wp_mono (fun a2 w2 h2 => hK.out _ _ h2.1 (fun _ => ?_)) h1.2
  clear hK
  refine wpAnyH_ready (rs := [11]) r11 (by simp) (AllReadyH.cons (o := o11) rfl (fun K hK => ?_) AllReadyH.nil)
  have q11 : ∀ y, Region.wanted o11 y = true := fun y => by unfold Region.wanted; rw [g11]
  rw [if_pos (q11 _)]
  refine Oper.wp_mono (fun a3 w3 h3 => hK.out _ _ h3.1 (fun _ => ?_)) h2.2
  clear hK
  obtain ⟨v, hv, hQ⟩ := h3.2
  refine wpAnyH_take (i := 12) (oi := o12) rfl hs f12 r12 (fun _ _ _ h => h) hv h3.1 ?_
  exact ⟨rr, NoPanic.normal hQ⟩
end
end Go.Proofs.YtjafmnemobcipaaDoor
namespace Go.Proofs.YtjafmnemobcipaaDoor
open Go.RowKit Go.BigFrame
set_option linter.unusedVariables false
set_option linter.unusedSimpArgs false

theorem RdD.upto {w : World} {ao : Option Addr} {n c : Nat} {ds : List (List Nat)} (h : RdD w (.slice ao n c) ds) (m : Nat) (hm : m ≤ n) : RdD w (.slice ao m c) (ds.take m) := by
  obtain ⟨_, _, _, e, h1, h2, h3, h4, h5⟩ := h
  cases e
  refine ⟨_, m, c, rfl, by simp [h1]; omega, by omega, h3, fun d hd => h4 d (List.mem_of_mem_take hd), fun hp => ?_⟩
  obtain ⟨b, off, e, hc⟩ := h5 (by omega)
  refine ⟨b, off, e, fun i hi => ?_⟩
  rw [List.getD_eq_getElem?_getD, List.getElem?_take_of_lt hi, ← List.getD_eq_getElem?_getD]
  exact hc i (by omega)
theorem RdD.from' {w : World} {b off n c m c' off' : Nat} {ds : List (List Nat)} (h : RdD w (.slice (some ⟨b, off, none⟩) n c) ds) (hm : m ≤ n) (hc' : n - m ≤ c' ∧ c' ≤ 9223372036854775807) (ho : m < n → off' = off + m * 32) : RdD w (.slice (some ⟨b, off', none⟩) (n - m) c') (ds.drop m) := by
  obtain ⟨_, _, _, e, h1, h2, h3, h4, h5⟩ := h
  cases e
  refine ⟨_, n - m, c', rfl, by simp [h1], hc'.1, hc'.2, fun d hd => h4 d (List.mem_of_mem_drop hd), fun hp => ?_⟩
  obtain ⟨b', o', e, hc⟩ := h5 (by omega)
  cases e
  have ho2 := ho (by omega)
  subst ho2
  refine ⟨_, _, rfl, fun i hi => ?_⟩
  have h9 := hc (m + i) (by omega)
  rw [show off + (m + i) * 32 = off + m * 32 + i * 32 by omega] at h9
  rw [List.getD_eq_getElem?_getD, List.getElem?_drop, ← List.getD_eq_getElem?_getD]
  exact h9
theorem RdM.three {w : World} {g : Nat} {v1 v2 v3 : Value} {l1 l2 l3 : List (List Nat)} {t : TypeId} (h : w.heap[g]? = some (.cells #[v1, v2, v3] t (0, 0))) (r1 : RdD w v1 l1) (r2 : RdD w v2 l2) (r3 : RdD w v3 l3) : RdM w (.slice (some ⟨g, 0, none⟩) 3 3) [l1, l2, l3] := by
  refine ⟨_, 3, 3, [v1, v2, v3], rfl, rfl, Nat.le_refl _, by omega, fun i hi => ?_, fun _ => ⟨g, 0, rfl, fun i hi => ?_⟩⟩
  · match i, hi with
    | 0, _ => exact r1
    | 1, _ => exact r2
    | 2, _ => exact r3
  · rw [cell_of_row _ g _ _ _ _ h]
    match i, hi with
    | 0, _ => rfl
    | 1, _ => rfl
    | 2, _ => rfl

set_option maxRecDepth 100000 in
set_option maxHeartbeats 4000000 in
theorem climb_any (z : Int) (ks : List Nat) (sv pv : Value) (ss : List (Nat × List (List Nat))) (ps : List (List Nat × List Nat)) (w : World) (hw : widthB z = true) (hks : Dg ks) (hs : RdS w sv ss) (hp : RdK w pv ps) (hT : Tabs w) (hpb : (pairB ps).length ≤ 1000000000000)
    (hkl : ∀ s ∈ ss, s.2.length ≤ 1000000000) (hfit : ∀ i, i < footN ss ps → rankB (ss.getD i (0, [])).1 (atC z ks i : Nat) ≤ (ss.getD i (0, [])).2.length) :
    Calls Tryd.prog 18 #[.int .i64 z, .agg (brow ks), .agg #[sv, pv]] w fun e w' => e = .returned (.agg (brow (cliD z ks ss (footN ss ps) (footD z ss ps)))) ∧ Kept [] w w' := by
  obtain ⟨sa, sn, sc, vs0, rfl, _⟩ := id hs
  obtain ⟨pa, pn, pc, _, _, rfl, _⟩ := id hp
  have HP := hide hp
  have HS := hide hs
  have HT := hide hT
  have HKS := hide hks
  have HFT := hide hfit
  have HKL := hide hkl
  have hk32 := hks.1
  have HSK := hide (Tryd.szD hk32)
  have hz : 1 ≤ z ∧ z ≤ 32 := width_le hw
  clear hp hs hT hks hfit hkl
  have HK0 := hide ((((Kept.refl [] w).alloc (.cells (brow ks) 29)).alloc (.cells #[.slice sa sn sc, .slice pa pn pc] 26)).alloc (.cells (zb 32) 29))
  have HG0 := hide (((Kept.refl [] ((w.alloc (.cells (brow ks) 29)).alloc (.cells #[.slice sa sn sc, .slice pa pn pc] 26))).alloc (.cells (zb 32) 29)).heap (heap_alloc2_old w (.cells (brow ks) 29) (.cells #[.slice sa sn sc, .slice pa pn pc] 26)) (by simp))
  have HZ0 := hide (alloc3_at w (.cells (brow ks) 29) (.cells #[.slice sa sn sc, .slice pa pn pc] 26) (.cells (zb 32) 29))
  obtain ⟨W, hW⟩ : ∃ W, ((w.alloc (.cells (brow ks) 29)).alloc (.cells #[.slice sa sn sc, .slice pa pn pc] 26)).alloc (.cells (zb 32) 29) = W := ⟨_, rfl⟩
  have HP0 := hide (heap_alloc3 w (.cells (brow ks) 29) (.cells #[.slice sa sn sc, .slice pa pn pc] 26) (.cells (zb 32) 29)).2.1
  rw [hW] at HK0 HG0 HZ0 HP0
  go_enter Tryd.func18, Tryd.ntmps18
  go_wp2_with (first | (rw [zb32, hW]) | (refine wpList_load_row rfl 26 _ rfl (w.heap.size + 1) rfl _ #[.slice sa sn sc, .slice pa pn pc] (0, 0) _ (unhide HP0) Tryd.underlying26 rfl (by kernel_rfl) ?_))
  clear hW
  refine Calls.mono (foot_any z _ _ ss ps _ hw ((unhide HS).old (unhide HK0)) ((unhide HP).old (unhide HK0)) ((unhide HT).k (unhide HK0)) hpb) ?_
  rintro e w1 ⟨⟨v1, rfl, hv1⟩, k1⟩
  have HD0 : Hid (Dg (footD z ss ps)) := hide (by
    unfold footD brD
    split
    · exact sumD_dg _ _
    · split
      · exact sumD_dg _ _
      · exact sunD_dg _ _ _)
  obtain ⟨N, hN⟩ : ∃ N, footN ss ps = N := ⟨_, rfl⟩
  obtain ⟨D0, hD⟩ : ∃ D0, footD z ss ps = D0 := ⟨_, rfl⟩
  rw [hD] at HD0
  rw [hN] at hv1 HFT
  rw [hD]
  have HRES := hide (by rw [hN, hD] : cliD z ks ss (footN ss ps) (footD z ss ps) = cliD z ks ss N D0)
  have hd0 := (unhide HD0).1
  have HS0 := hide (Tryd.szD hd0)
  have HNL := hide (by rw [← hN]; unfold footN; split <;> omega : N ≤ ss.length)
  have HKw := hide ((unhide HK0).trans k1 (by simp))
  have HGw := hide (k1.heap (unhide HG0) (by simp))
  have HZw := hide (k1.heap (unhide HZ0) (by simp))
  have HN1 := hide (setRow_heap (w1.alloc (.cells (zb 32) 29)) w1.heap.size (zb 32) (brow D0) 29 (0, 0) (heap_alloc_new _ _))
  have HKX := hide (((Kept.refl [] w1).alloc (.cells (zb 32) 29)).setRow (g := w1.heap.size) (Or.inr (Nat.le_refl _)) (brow D0))
  obtain ⟨va, vn, vc, _, rfl, _⟩ := id hv1
  obtain ⟨hvn, hvc, hvm, h4⟩ := hv1.cells
  have hvN : vn = N := by rw [← hvn, List.length_take]; have := unhide HNL; omega
  subst hvN
  have H4 := hide (fun i (hi : i < vn) => by
    have h9 := h4 i hi
    rw [List.getD_eq_getElem?_getD, List.getElem?_take_of_lt hi, ← List.getD_eq_getElem?_getD] at h9
    exact h9)
  clear k1 HK0 HG0 HZ0 hv1 hN hD h4 hvn HP0
  go_wp2_with (rw [zb32]; refine wpList_store_row rfl 29 _ _ rfl w1.heap.size (brow D0) rfl rfl _ (zb 32) (heap_alloc_new _ _) (unhide HS0) (by rw [zb_size, brow_size, hd0]) (brow_one _) ?_)
  obtain ⟨X, hX⟩ : ∃ X, (w1.alloc (.cells (zb 32) 29)).setRow w1.heap.size (brow D0) = X := ⟨_, rfl⟩
  rw [hX] at HN1 HKX ⊢
  clear hX
  go_loopw [9] (fun t9 wr => ∃ (k : Nat) (d : List Nat), k ≤ vn ∧ t9 = .int .i64 ((k : Int) - 1) ∧ Hid (Dg d) ∧ Hid (cliD z ks ss k d = cliD z ks ss vn D0) ∧ Hid (wr.heap[w1.heap.size]? = some (.cells (brow d) 29 (0, 0))) ∧ Hid (Kept [] w1 wr)) (fun t _ => (intOf t + 1).toNat)
  case atStart => exact ⟨vn, D0, Nat.le_refl _, rfl, HD0, hide rfl, HN1, HKX⟩
  case round =>
    clear HN1 HKX
    obtain ⟨k, d, hk, rfl, HDG, HCL, HN, HK⟩ := hrel
    have hd := (unhide HDG).1
    have HSD := hide (Tryd.szD hd)
    cases k with
    | zero =>
      have HRE := hide (by have h9 := unhide HCL; rw [cliD] at h9; rw [unhide HRES, ← h9] : cliD z ks ss (footN ss ps) (footD z ss ps) = d)
      have HZr := hide ((unhide HK).heap (unhide HZw) (by simp))
      have hm1 : ¬ (0 : Int) ≤ ((0 : Nat) : Int) - 1 := by omega
      go_wp2_with (first
        | (refine wpList_load_row rfl 29 _ rfl w1.heap.size rfl _ (brow d) (0, 0) _ (unhide HN) Tryd.underlying29 rfl (unhide HSD) ?_)
        | (refine wpList_store_row rfl 29 _ _ rfl (w.heap.size + 1 + 1) (brow d) rfl rfl _ (zb 32) (unhide HZr) (unhide HSD) (by rw [zb_size, brow_size, hd]) (brow_one _) ?_))
      have HKF := hide (((unhide HKw).trans (unhide HK) (by simp)).setRow (g := w.heap.size + 1 + 1) (Or.inr (by omega)) (brow d))
      have HZF := hide (setRow_heap wr (w.heap.size + 1 + 1) (zb 32) (brow d) 29 (0, 0) (unhide HZr))
      rw [unhide HRE]
      refine bodyPost_ret (v := .agg (brow d)) ?_ rfl ⟨rfl, unhide HKF⟩
      exact results_cell_row rfl _ _ (w.heap.size + 1 + 1) _ (brow d) (0, 0) _ rfl (unhide HZF) Tryd.underlying29 rfl (unhide HSD)
    | succ k =>
      have hki : ((k + 1 : Nat) : Int) - 1 = (k : Int) := by omega
      rw [hki]
      clear hki
      have hk0 : (0 : Int) ≤ k := by omega
      have hkv : (k : Int) < vn := by omega
      obtain ⟨b, o, v, rfl, e1, e2, hsb, r2⟩ := unhide H4 k (by omega)
      have q1 := (unhide HK).cell e1 (by simp)
      have q2 := (unhide HK).cell e2 (by simp)
      have HX := hide (r2.old (unhide HK))
      have HRK := hide (unhide HFT k (by omega))
      have HKN := hide (unhide HKL (ss.getD k (0, [])) (by
        have h9 := unhide HNL
        rw [List.getD_eq_getElem?_getD, List.getElem?_eq_getElem (by omega)]; exact List.getElem_mem (by omega)))
      have HSTP := hide (by rw [← unhide HCL, cliD] : cliD z ks ss k (brD z (ss.getD k (0, [])).1 ((ss.getD k (0, [])).2.take (rankB (ss.getD k (0, [])).1 (atC z ks k)) ++ d :: (ss.getD k (0, [])).2.drop (rankB (ss.getD k (0, [])).1 (atC z ks k)))) = cliD z ks ss vn D0)
      have HAC := hide (atC_lt z ks k (unhide HKS))
      clear e1 e2 r2 HCL
      generalize ss.getD k (0, []) = s at q1 hsb HX HRK HKN HSTP
      obtain ⟨sb, sk⟩ := s
      simp only at q1 hsb HX HRK HKN HSTP
      obtain ⟨a8, m8, c8, rfl, hm8, _⟩ := id (unhide HX)
      subst hm8
      have HKa := hide ((Kept.refl [] wr).alloc (.cells #[.int .u16 sb, .slice a8 sk.length c8] 43))
      have HNW := hide (heap_alloc_new wr (.cells #[.int .u16 sb, .slice a8 sk.length c8] 43))
      have HGK := hide ((unhide HKa).heap ((unhide HK).heap (unhide HGw) (by simp)) (by simp))
      have hne : ∀ p : Prop, (∀ w', Kept [] (wr.alloc (.cells #[.int .u16 sb, .slice a8 sk.length c8] 43)) w' → p) = p := fun p => propext ⟨fun h => h _ (Kept.refl [] _), fun h _ _ => h⟩
      have HDI := hide (fun w' (hw' : Kept [] (wr.alloc (.cells #[.int .u16 sb, .slice a8 sk.length c8] 43)) w') => (hdigit_any z ks k w' (by omega) (by omega) (unhide HKS)).mono (fun e w2 (h2 : _ ∧ _) => (⟨h2.1, hw'.trans h2.2 (by simp)⟩ : _ ∧ Kept [] (wr.alloc (.cells #[.int .u16 sb, .slice a8 sk.length c8] 43)) w2)))
      have HRA := hide (fun w' (hw' : Kept [] (wr.alloc (.cells #[.int .u16 sb, .slice a8 sk.length c8] 43)) w') => (rank_any sb (atC z ks k : Nat) w' hsb (by have := unhide HAC; omega)).mono (fun e w2 (h2 : _ ∧ _) => (⟨h2.1, hw'.trans h2.2 (by simp)⟩ : _ ∧ Kept [] (wr.alloc (.cells #[.int .u16 sb, .slice a8 sk.length c8] 43)) w2)))
      go_wp2_with fail
      refine wp_region_keep (by kernel_rfl) (by kernel_rfl) ?_
      go_big_quiet_step (fail)
      refine wpQuiet_val rfl (.int .u16 sb) (fun w' hw' => run_load1 40 (.tmp 30) rfl ⟨wr.heap.size, 0, none⟩ rfl w' _ .u16 Tryd.underlying40 (hw'.cell (cell_of_row _ wr.heap.size 0 _ _ _ (unhide HNW)) (by simp))) ?_
      simp only [Act.put, List.setIfInBounds_toArray, List.set_cons_succ, List.set_cons_zero]
      go_big_quiet_step (fail)
      refine wpQuiet_row rfl 29 (.tmp 4) rfl w.heap.size rfl _ (brow ks) (0, 0) _ (fun w' hw' => hw'.heap (unhide HGK) (by simp)) Tryd.underlying29 rfl (unhide HSK) ?_
      simp only [Act.put, List.setIfInBounds_toArray, List.set_cons_succ, List.set_cons_zero]
      go_big_quiet_step (fail)
      go_big_quiet_want
      go_big_quiet_op
      apply Exists.intro
      refine ⟨fun w' hw' => ?_, ?_⟩
      · exact unhide HDI w' hw'
      go_big_quiet_on
      go_big_quiet_want
      go_big_quiet_op
      apply Exists.intro
      refine ⟨fun w' hw' => ?_, ?_⟩
      · exact unhide HRA w' hw'
      go_big_quiet_on
      repeat (go_big_quiet_step (fail))
      refine wpQuiet_nil ?_
      intro w5 hw5
      have HK5 := hide (((unhide HK).trans (unhide HKa) (by simp)).trans hw5 (by simp))
      have HN5 := hide (hw5.heap ((unhide HKa).heap (unhide HN) (by simp)) (by simp))
      have HS5 := hide (hw5.heap (unhide HNW) (by simp))
      have HX5 := hide ((unhide HX).old ((unhide HKa).trans hw5 (by simp)))
      clear hw5 hne q1 q2 HDI HRA HGK HNW HKa
      generalize rankB sb (atC z ks k : Nat) = rk at HRK HSTP ⊢
      go_wp2_with fail
      have hrk := unhide HRK
      have hsk := unhide HKN
      obtain ⟨_, _, _, he9, _, hcc, hcm, _, hcc2⟩ := id (unhide HX5)
      cases he9
      have hrkc : (rk : Int) ≤ c8 := by omega
      have hrk0 : (0 : Int) ≤ rk := by omega
      have hrkl : (rk : Int) ≤ sk.length := by omega
      have hskc : (sk.length : Int) ≤ c8 := by omega
      obtain ⟨V3, V9, h39⟩ : ∃ V3 V9 : Value, (sk.length = 0 ∧ rk = 0 ∧ V3 = .slice a8 0 c8 ∧ V9 = .slice a8 0 c8) ∨ (0 < sk.length ∧ ∃ b' o', a8 = some ⟨b', o', none⟩ ∧ V3 = .slice a8 rk c8 ∧ ((c8 = rk ∧ V9 = .slice a8 (sk.length - rk) 0) ∨ (¬ c8 = rk ∧ V9 = .slice (some ⟨b', o' + rk * 32, none⟩) (sk.length - rk) (c8 - rk)))) := by
        rcases Nat.eq_zero_or_pos sk.length with h9 | h9
        · exact ⟨_, _, Or.inl ⟨h9, by omega, rfl, rfl⟩⟩
        · obtain ⟨b', o', e9, _⟩ := hcc2 h9
          by_cases hc9 : c8 = rk
          · exact ⟨_, _, Or.inr ⟨h9, b', o', e9, rfl, Or.inl ⟨hc9, rfl⟩⟩⟩
          · exact ⟨_, _, Or.inr ⟨h9, b', o', e9, rfl, Or.inr ⟨hc9, rfl⟩⟩⟩
      have HR39 : Hid (RdD w5 V3 (sk.take rk) ∧ RdD w5 V9 (sk.drop rk)) := hide (by
        rcases h39 with ⟨g1, g2, g3, g4⟩ | ⟨g0, b', o', g1, g2, (⟨g3, g4⟩ | ⟨g3, g4⟩)⟩
        · have hnil : sk = [] := List.eq_nil_of_length_eq_zero g1
          rw [g3, g4, g2, hnil]
          have h9 := (unhide HX5)
          rw [hnil] at h9
          exact ⟨h9, h9⟩
        · subst g1
          rw [g2, g4]
          exact ⟨(unhide HX5).upto rk hrk, (unhide HX5).from' hrk ⟨by omega, by omega⟩ (fun h9 => by omega)⟩
        · subst g1
          rw [g2, g4]
          exact ⟨(unhide HX5).upto rk hrk, (unhide HX5).from' hrk ⟨by omega, by omega⟩ (fun _ => rfl)⟩)
      obtain ⟨s3, n3, k3, e3⟩ : ∃ s n c, V3 = .slice s n c := by
        rcases h39 with ⟨g1, g2, g3, g4⟩ | ⟨g0, b', o', g1, g2, _⟩
        · exact ⟨_, _, _, g3⟩
        · exact ⟨_, _, _, g2⟩
      obtain ⟨s9, n9, k9, e9'⟩ : ∃ s n c, V9 = .slice s n c := by
        rcases h39 with ⟨g1, g2, g3, g4⟩ | ⟨g0, b', o', g1, g2, (⟨g3, g4⟩ | ⟨g3, g4⟩)⟩
        · exact ⟨_, _, _, g4⟩
        · exact ⟨_, _, _, g4⟩
        · exact ⟨_, _, _, g4⟩
      have E3 := hide e3
      have E9 := hide e9'
      clear hcc2 e3 e9'
      have c51 : w5.cell? ⟨wr.heap.size, 1, none⟩ = some (.slice a8 sk.length c8) := cell_of_row _ wr.heap.size 1 _ _ _ (unhide HS5)
      refine wp_bld13 (by kernel_rfl) (by kernel_rfl) (by kernel_rfl) (by kernel_rfl) (by kernel_rfl) (by kernel_rfl) (by kernel_rfl) (by kernel_rfl) (by kernel_rfl) (by kernel_rfl) (by kernel_rfl) (by kernel_rfl) (by kernel_rfl) (by kernel_rfl) (by kernel_rfl) (by kernel_rfl) (by kernel_rfl) (by kernel_rfl) (by kernel_rfl) (by kernel_rfl) (by kernel_rfl) (by kernel_rfl) (by kernel_rfl) (by kernel_rfl) (by kernel_rfl) (by kernel_rfl) rfl rfl rfl
        (.pointer (some ⟨wr.heap.size, 1, none⟩)) (.slice a8 sk.length c8) (.int .i64 rk) V3 (.agg (d.map u8).toArray) (.pointer (some ⟨wr.heap.size, 1, none⟩)) (.slice a8 sk.length c8) (.int .i64 rk) V9 _ _ _ _ _ _ _ _ _ (by simp only [Act.put, List.setIfInBounds_toArray, List.set_cons_zero, List.set_cons_succ]; rfl) (by simp only [Act.put, List.setIfInBounds_toArray, List.set_cons_zero, List.set_cons_succ]; rfl) (by simp only [Act.put, List.setIfInBounds_toArray, List.set_cons_zero, List.set_cons_succ]; rfl) (by simp only [Act.put, List.setIfInBounds_toArray, List.set_cons_zero, List.set_cons_succ]; rfl) (by simp only [Act.put, List.setIfInBounds_toArray, List.set_cons_zero, List.set_cons_succ]; rfl) (by simp only [Act.put, List.setIfInBounds_toArray, List.set_cons_zero, List.set_cons_succ]; rfl) (by simp only [Act.put, List.setIfInBounds_toArray, List.set_cons_zero, List.set_cons_succ]; rfl) (by simp only [Act.put, List.setIfInBounds_toArray, List.set_cons_zero, List.set_cons_succ]; rfl) (by simp only [Act.put, List.setIfInBounds_toArray, List.set_cons_zero, List.set_cons_succ]; rfl)
        (by exact Or.inl ⟨by rfl, fun W' hW' => by go_simp⟩)
        (by exact Or.inl ⟨by rfl, fun W' hW' => by have h9 := hW'.cell c51 (by simp); go_simp⟩)
        (by exact Or.inl ⟨by rfl, fun W' hW' => by go_simp⟩)
        (by rcases h39 with ⟨g1, g2, rfl, rfl⟩ | ⟨g0, b', o', rfl, rfl, (⟨g1, rfl⟩ | ⟨g1, rfl⟩)⟩
            · subst g2; exact Or.inl ⟨by rfl, fun W' hW' => by go_simp⟩
            · exact Or.inl ⟨by rfl, fun W' hW' => by go_simp⟩
            · exact Or.inl ⟨by rfl, fun W' hW' => by go_simp⟩)
        (by exact yieldsIf_load_mid (by rfl) _ _ rfl w1.heap.size 0 rfl (d.map u8) _ (fun W' hW' => range_row (hW'.heap (unhide HN5) (by simp))) Tryd.underlying29 rfl (by rw [List.length_map, hd]; exact Tryd.size_dig))
        (by exact Or.inl ⟨by rfl, fun W' hW' => by go_simp⟩)
        (by exact Or.inl ⟨by rfl, fun W' hW' => by have h9 := hW'.cell c51 (by simp); go_simp⟩)
        (by exact Or.inl ⟨by rfl, fun W' hW' => by go_simp⟩)
        (by rcases h39 with ⟨g1, g2, rfl, rfl⟩ | ⟨g0, b', o', rfl, rfl, (⟨g1, rfl⟩ | ⟨g1, rfl⟩)⟩
            · subst g2; exact Or.inl ⟨by rfl, fun W' hW' => by go_simp⟩
            · exact Or.inl ⟨by rfl, fun W' hW' => by go_simp⟩
            · exact Or.inl ⟨by rfl, fun W' hW' => by go_simp⟩)
        ?_
      have e3 := unhide E3
      have e9' := unhide E9
      clear h39 E3 E9
      subst e3
      subst e9'
      have HB1 := hide (heap_alloc_new w5.drew (.cells (brow d) 29))
      unfold Oper.wp execOp
      go_simp
      rw [zb32, one_dig d hd]
      have k7 := (((Kept.refl [] w5).alloc (.cells (brow d) 29)).alloc (.cells #[.slice s3 n3 k3, .slice (some ⟨w5.heap.size, 0, none⟩) 1 1, .slice s9 n9 k9] 41)).drew
      have hA := heap_alloc2_old w5 (.cells (brow d) 29) (.cells #[.slice s3 n3 k3, .slice (some ⟨w5.heap.size, 0, none⟩) 1 1, .slice s9 n9 k9] 41)
      have hB := heap_alloc2_new w5 (.cells (brow d) 29) (.cells #[.slice s3 n3 k3, .slice (some ⟨w5.heap.size, 0, none⟩) 1 1, .slice s9 n9 k9] 41)
      refine ⟨((Kept.refl [] w5).alloc _).drew, k7, ?_⟩
      refine Calls.mono (concat_any _ [sk.take rk, [d], sk.drop rk] _ (RdM.three hB ((unhide HR39).1.old k7) (RdD.one hA (unhide HDG)) ((unhide HR39).2.old k7)) (by simp; omega)) ?_
      rintro e w8 ⟨v8, rfl, r8, k8⟩
      have hfl : [sk.take rk, [d], sk.drop rk].flatten = sk.take rk ++ d :: sk.drop rk := by simp
      rw [hfl] at r8
      have HK8 := hide ((unhide HK5).trans (k7.trans k8 (by simp)) (by simp))
      have HN8 := hide ((k7.trans k8 (by simp)).heap (unhide HN5) (by simp))
      have HS8 := hide ((k7.trans k8 (by simp)).heap (unhide HS5) (by simp))
      have HR8 := hide r8
      refine ⟨k7.trans k8 (by simp), v8, by exact Or.inl ⟨by rfl, fun W' hW' => by go_simp⟩, ?_⟩
      clear k7 k8 hA hB hfl r8 HK5 HN5 HS5 HX5 c51 HR39
      generalize sk.take rk ++ d :: sk.drop rk = kk at HSTP HR8
      have c80 : w8.cell? ⟨wr.heap.size, 0, none⟩ = some (.int .u16 sb) := cell_of_row _ wr.heap.size 0 _ _ _ (unhide HS8)
      clear hrkc hrk0 hrkl hskc hrk hsk hcc hcm
      go_wp2_with fail
      refine Calls.mono (branch_all z sb _ kk _ (by omega) hsb (unhide HR8) ((unhide HT).k ((unhide HKw).trans (unhide HK8) (by simp)))) ?_
      rintro e w9 ⟨rfl, k9'⟩
      have HDG2 := hide (sunD_dg (branchE z sb kk) z (branchB z sb kk))
      unfold brD at HSTP
      generalize sunD (branchE z sb kk) z (branchB z sb kk) = D2 at HSTP HDG2 ⊢
      generalize sunE (branchE z sb kk) z = E2
      have hd2 := (unhide HDG2).1
      have HSZ2 := hide (Tryd.szD hd2)
      have HN9 := hide (k9'.heap (unhide HN8) (by simp))
      have HK9 := hide (((unhide HK8).trans k9' (by simp)).setRow (g := w1.heap.size) (Or.inr (Nat.le_refl _)) (brow D2))
      have HNF := hide (setRow_heap w9 w1.heap.size (brow d) (brow D2) 29 (0, 0) (unhide HN9))
      clear k9' c80 HK8 HN8 HS8 HR8
      go_wp2_with (refine wpList_store_row rfl 29 _ _ rfl w1.heap.size (brow D2) rfl rfl _ (brow d) (unhide HN9) (unhide HSZ2) (by rw [brow_size, brow_size, hd2, hd]) (brow_one _) ?_)
      refine ⟨⟨k, D2, by omega, by go_num, HDG2, HSTP, HNF, HK9⟩, ?_⟩
      simp [intOf]
end Go.Proofs.YtjafmnemobcipaaDoor
