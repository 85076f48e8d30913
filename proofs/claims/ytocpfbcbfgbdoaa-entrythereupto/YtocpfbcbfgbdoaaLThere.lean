import Derived.Test.YtocpfbcbfgbdoaaERootEq
import Derived.Test.YtocpfbcbfgbdoaaEBatD
import Derived.Test.YtocpfbcbfgbdoaaEAw
import Derived.Test.YtocpfbcbfgbdoaaEOne
namespace Go.Proofs.Ytocpfbcbfgbdoaa
open Go.RowKit Go.BigFrame
set_option linter.unusedVariables false
set_option linter.unusedSimpArgs false

set_option maxRecDepth 100000 in
set_option maxHeartbeats 2000000 in
theorem entryThere_walk (f : Nat) (v : Value) (es : List En) (z : Int) (s : Nat) (l m : List Nat) (w : World) (hf : f < 18446744073709551616) (h : RdN w v es) (hlen : es.length ≤ 1048576) (hz : -9223372036854775808 ≤ z ∧ z ≤ 9223372036854775807) (hs : s < 18446744073709551616) (hl : l.length = 32 ∧ ∀ x ∈ l, x < 256) (hm : m.length = 32 ∧ ∀ x ∈ m, x < 256) :
    Calls Try.prog 7 #[.agg #[.int .u64 f, v], .int .i64 z, .agg (rootC s l m).toArray] w fun r w' => r = .returned (.bool true) ∧ Below w.heap.size w w' := by
  have H := hide h
  obtain ⟨a1, m1, c1, kv, vv, rfl, hm1, _⟩ := h
  subst hm1
  have HL := hide hl
  have HM := hide hm
  clear hl hm
  obtain ⟨A, hA⟩ : ∃ A, (rootC s l m).toArray = A := ⟨_, rfl⟩
  have HAA := hide hA
  rw [hA]
  clear hA
  go_enter Try.func7, Try.ntmps7
  go_wp2_with fail
  have HK0 := hide (((Kept.refl [] w).alloc (.cells #[.int .u64 (f : Int), .slice a1 es.length c1] 34)).alloc (.cells A 46))
  have HG0 := hide (((Kept.refl [] (w.alloc (.cells #[.int .u64 (f : Int), .slice a1 es.length c1] 34))).alloc (.cells A 46)).heap (heap_alloc_new w (.cells #[.int .u64 (f : Int), .slice a1 es.length c1] 34)) (by simp))
  have HZ0 := hide (alloc_at w (.cells #[.int .u64 (f : Int), .slice a1 es.length c1] 34) (.cells A 46))
  refine Calls.mono (eawake_any _) ?_
  rintro r w1 ⟨rfl, k1⟩
  have HG1 := hide (k1.heap (unhide HG0) (by simp))
  have HZ1 := hide (k1.heap (unhide HZ0) (by simp))
  have HK1 := hide ((unhide HK0).trans k1 (by simp))
  clear k1 HG0 HZ0 HK0
  have d0 := cell_of_row _ _ 0 _ _ _ (unhide HG1)
  have d1 := cell_of_row _ _ 1 _ _ _ (unhide HG1)
  go_wp2_with fail
  refine Calls.mono (twinBatch_any f _ es w1 ((unhide H).old (unhide HK1)) hlen) ?_
  rintro r w2 ⟨v2, rfl, n2, k2⟩
  have HG2 := hide (k2.heap (unhide HG1) (by simp))
  have HZ2 := hide (k2.heap (unhide HZ1) (by simp))
  have HK2 := hide ((unhide HK1).trans k2 (by simp))
  have HN2 := hide n2.rdN
  clear k2 n2 d0 d1 HG1 HZ1 HK1
  go_wp2_with fail
  refine Calls.mono (encodeBatch_any f v2 es w2 hf (unhide HN2)) ?_
  rintro r w3 ⟨v3, rfl, n3, k3⟩
  have HG3 := hide (k3.heap (unhide HG2) (by simp))
  have HZ3 := hide (k3.heap (unhide HZ2) (by simp))
  have HK3 := hide ((unhide HK2).trans k3 (by simp))
  have HR3 := hide n3.1
  obtain ⟨a3, m3, c3, hu3, _⟩ := id n3.1
  subst hu3
  clear k3 n3 HG2 HZ2 HK2 HN2
  go_wp2_with fail
  refine Calls.mono (decodeBatch_any _ _ w3 (unhide HR3)) ?_
  rintro r w4 ⟨bv, rfl, n4, k4⟩
  have HG4 := hide (k4.heap (unhide HG3) (by simp))
  have HZ4 := hide (k4.heap (unhide HZ3) (by simp))
  have HK4 := hide ((unhide HK3).trans k4 (by simp))
  have HN4 := hide n4.rdN
  obtain ⟨a4, m4, c4, _, _, hu4, _⟩ := id n4.rdN
  subst hu4
  clear k4 n4 HG3 HZ3 HK3 HR3
  obtain ⟨D, hD⟩ : ∃ D, decB (if chkB f es = 0 then batB f es else []) = D := ⟨_, rfl⟩
  have HD := hide hD
  rw [hD] at HN4 ⊢
  clear hD
  obtain ⟨f4, es4, e4⟩ := D
  simp only at HN4 ⊢
  obtain ⟨E, hE⟩ : ∃ E, chkB f es = E := ⟨_, rfl⟩
  have HE := hide hE
  rw [hE] at HD ⊢
  clear hE
  have ka := (Kept.refl [] w4).alloc (.cells #[.int .u64 (f4 : Int), .slice a4 m4 c4] 34)
  have HGA := hide (ka.heap (unhide HG4) (by simp))
  have HZA := hide (ka.heap (unhide HZ4) (by simp))
  have HKA := hide ((unhide HK4).trans ka (by simp))
  have HNA := hide ((unhide HN4).old ka)
  clear ka HG4 HZ4 HK4 HN4
  have d0 := cell_of_row _ _ 0 _ _ _ (unhide HGA)
  have d1 := cell_of_row _ _ 1 _ _ _ (unhide HGA)
  by_cases hE0 : E = 0
  case' pos =>
    subst hE0
    rw [if_pos rfl, decB_back (unhide HE) hf] at HD
    obtain ⟨p1, p2, p3⟩ : f = f4 ∧ es = es4 ∧ 0 = e4 := by have h9 := unhide HD; injection h9 with h1 h2; injection h2 with h2 h3; exact ⟨h1, h2, h3⟩
    subst p1
    subst p2
    subst p3
    go_wp2_with fail
    refine Calls.mono (sameBatch_any f f _ _ es es _ ((unhide H).old (unhide HKA)) (unhide HNA)) ?_
    rintro r w5 ⟨rfl, k5⟩
    rw [decide_eq_true rfl, decide_eq_true rfl, Bool.and_self]
    have HG5 := hide (k5.heap (unhide HGA) (by simp))
    have HZ5 := hide (k5.heap (unhide HZA) (by simp))
    have HK5 := hide ((unhide HKA).trans k5 (by simp))
    clear k5 d0 d1
    have d1 := cell_of_row _ _ 1 _ _ _ (unhide HG5)
    go_wp2_with fail
  case' neg =>
    have hE0' : ((E : Int) == 0) = false := by rw [beq_eq_false_iff_ne]; omega
    go_wp2_with fail
    have HG5 := HGA
    have HZ5 := HZA
    have HK5 := HKA
    clear d0 d1
    revert HG5 HZ5 HK5
    generalize w4.alloc (.cells #[.int .u64 (f4 : Int), .slice a4 m4 c4] 34) = w5
    intro HG5 HZ5 HK5
  all_goals
    clear HGA HZA HKA HNA HD HE
    go_loopw [49] (fun t wr => ∃ (i : Nat), i ≤ es.length ∧ t = .int .i64 i ∧ Hid (Kept [] w5 wr)) (fun t _ => es.length - (intOf t).toNat)
    case atStart => exact ⟨0, Nat.zero_le _, rfl, hide (Kept.refl [] w5)⟩
    case round =>
      obtain ⟨i, hi, rfl, HK⟩ := hrel
      have HKW := hide ((unhide HK5).trans (unhide HK) (by simp))
      by_cases hlt : i < es.length
      · have hlt' : (i : Int) < es.length := by omega
        obtain ⟨_, _, _, kv', vv', hv', hmm, _, _, h4, h5⟩ := unhide H
        injection hv' with hv1 hv2 hv3
        subst hv1
        subst hv2
        subst hv3
        obtain ⟨b, off, rfl, hcc⟩ := h5 (by omega)
        have hr := hcc i hlt
        have q0 := (unhide HKW).cell (hr 0 _ rfl) (by simp)
        have q1 := (unhide HKW).cell (hr 1 _ rfl) (by simp)
        have q2 := (unhide HKW).cell (hr 2 _ rfl) (by simp)
        rw [Nat.add_zero] at q0
        have HO := hide ((h4 i hlt).old (unhide HKW))
        clear hcc hr h4 h5
        generalize kv' i = kvi at q1 HO
        generalize vv' i = vvi at q2 HO
        generalize es[i] = e at q0 HO
        obtain ⟨a8, m8, c8, rfl, _⟩ := id (unhide HO).key
        obtain ⟨a9, m9, c9, rfl, _⟩ := id (unhide HO).val
        have ka := (Kept.refl [] wr).alloc (.cells #[.int .u8 (e.k : Int), .slice a8 m8 c8, .slice a9 m9 c9] 26)
        have HKA := hide ((unhide HK).trans ka (by simp))
        have HOA := hide ((unhide HO).old ka)
        have HXA := hide (heap_alloc_new wr (.cells #[.int .u8 (e.k : Int), .slice a8 m8 c8, .slice a9 m9 c9] 26))
        clear ka
        go_wp2_with fail
        refine Calls.mono (twinEntry_any e (.slice a8 m8 c8) (.slice a9 m9 c9) _ (unhide HOA)) ?_
        rintro r x1 ⟨kv1, vv1, rfl, ok1, k1, _⟩
        have HK1 := hide ((unhide HKA).trans k1 (by simp))
        have HX1 := hide (k1.heap (unhide HXA) (by simp))
        have HO1 := hide ((unhide HOA).old k1)
        have HOX := hide ok1
        clear ok1 k1 HXA HOA HKA q0 q1 q2
        go_wp2_with fail
        refine Calls.mono (eencode_any e kv1 vv1 x1 (unhide HOX)) ?_
        rintro r x2 ⟨v5, rfl, n5, k5⟩
        have HK2 := hide ((unhide HK1).trans k5 (by simp))
        have HX2 := hide (k5.heap (unhide HX1) (by simp))
        have HO2 := hide ((unhide HO1).old k5)
        obtain ⟨ax, mx, cx, hux, _⟩ := id n5.1
        subst hux
        have HR2 := hide n5.1
        clear n5 k5 HX1 HO1 HK1
        go_wp2_with fail
        refine Calls.mono (decode_any _ _ x2 (unhide HR2)) ?_
        rintro r x3 ⟨kv3, vv3, rfl, ok3, k3, _⟩
        have HK3 := hide ((unhide HK2).trans k3 (by simp))
        have HX3 := hide (k3.heap (unhide HX2) (by simp))
        have HO3 := hide ((unhide HO2).old k3)
        have HY3 := hide ok3
        obtain ⟨ay, my, cy, huy, _⟩ := id ok3.key
        subst huy
        obtain ⟨aw, mw, cw, huw, _⟩ := id ok3.val
        subst huw
        clear ok3 k3 HX2 HO2 HK2 HR2
        obtain ⟨D, hD⟩ : ∃ D, decE (if chkE e = 0 then enB e else []) = D := ⟨_, rfl⟩
        have HD := hide hD
        rw [hD] at HY3 ⊢
        clear hD
        obtain ⟨e3, f3⟩ := D
        simp only at HY3 ⊢
        rw [show enC e3 (.slice ay my cy) (.slice aw mw cw) = #[.int .u8 (e3.k : Int), .slice ay my cy, .slice aw mw cw] from rfl]
        have ka := (Kept.refl [] x3).alloc (.cells #[.int .u8 (e3.k : Int), .slice ay my cy, .slice aw mw cw] 26)
        have HK4 := hide ((unhide HK3).trans ka (by simp))
        have HX4 := hide (ka.heap (unhide HX3) (by simp))
        have HO4 := hide ((unhide HO3).old ka)
        have HY4 := hide ((unhide HY3).old ka)
        clear ka HX3 HO3 HK3 HY3
        have q0 := cell_of_row _ _ 0 _ _ _ (unhide HX4)
        have q1 := cell_of_row _ _ 1 _ _ _ (unhide HX4)
        have q2 := cell_of_row _ _ 2 _ _ _ (unhide HX4)
        obtain ⟨g, hg⟩ : ∃ g, chkE e = g := ⟨_, rfl⟩
        have HGG := hide hg
        rw [hg] at HD ⊢
        clear hg
        by_cases hg0 : g = 0
        case' pos =>
          subst hg0
          rw [if_pos rfl, decE_back (unhide HGG)] at HD
          obtain ⟨p1, p2⟩ : e = e3 ∧ 0 = f3 := by have h9 := unhide HD; injection h9 with h1 h2; exact ⟨h1, h2⟩
          subst p1
          subst p2
          go_wp2_with fail
          refine Calls.mono (sameEntry_any e e (.slice a8 m8 c8) (.slice a9 m9 c9) (.slice ay my cy) (.slice aw mw cw) _ (unhide HO4) (unhide HY4)) ?_
          rintro r x5 ⟨rfl, k5⟩
          rw [decide_eq_true rfl]
          have HK5' := hide ((unhide HK4).trans k5 (by simp))
          have HX5 := hide (k5.heap (unhide HX4) (by simp))
          have HO5 := hide ((unhide HO4).old k5)
          clear k5 q0 q1 q2
          have q0 := cell_of_row _ _ 0 _ _ _ (unhide HX5)
          have q1 := cell_of_row _ _ 1 _ _ _ (unhide HX5)
          have q2 := cell_of_row _ _ 2 _ _ _ (unhide HX5)
          go_wp2_with fail
          refine Calls.mono (twinEntry_any e (.slice a8 m8 c8) (.slice a9 m9 c9) x5 (unhide HO5)) ?_
          rintro r x6 ⟨kv6, vv6, rfl, ok6, k6, _⟩
          have HK6 := hide ((unhide HK5').trans k6 (by simp))
          have HO6 := hide ok6
          clear ok6 k6
          go_wp2_with fail
          refine Calls.mono (check_any e kv6 vv6 x6 (unhide HO6)) ?_
          rintro r x7 ⟨rfl, k7⟩
          rw [unhide HGG]
          have HK7 := hide ((unhide HK6).trans k7 (by simp))
          clear k7
          go_wp2
          refine ⟨⟨i + 1, by omega, by go_num, HK7⟩, ?_⟩
          simp [intOf]; omega
        case' neg =>
          have hg0' : ((g : Int) == 0) = false := by rw [beq_eq_false_iff_ne]; omega
          have hgg : ((g : Int) != (g : Int)) = false := by simp
          go_wp2_with fail
          refine Calls.mono (twinEntry_any e (.slice a8 m8 c8) (.slice a9 m9 c9) _ (unhide HO4)) ?_
          rintro r x6 ⟨kv6, vv6, rfl, ok6, k6, _⟩
          have HK6 := hide ((unhide HK4).trans k6 (by simp))
          have HO6 := hide ok6
          clear ok6 k6
          go_wp2_with fail
          refine Calls.mono (check_any e kv6 vv6 x6 (unhide HO6)) ?_
          rintro r x7 ⟨rfl, k7⟩
          rw [unhide HGG]
          have HK7 := hide ((unhide HK6).trans k7 (by simp))
          clear k7
          go_wp2
          refine ⟨⟨i + 1, by omega, by go_num, HK7⟩, ?_⟩
          simp [intOf]; omega
      · have hlt' : ¬ (i : Int) < es.length := by omega
        have HZr := hide ((unhide HK).heap (unhide HZ5) (by simp))
        have HSZ := hide (by rw [← unhide HAA]; exact rootC_size s (unhide HL).1 (unhide HM).1 : (Try.prog.info? 46).map (·.size) = some A.size)
        go_wp2_with (refine wpList_load_row rfl 46 _ rfl (w.heap.size + 1) rfl _ A (0, 0) _ (unhide HZr) Try.underlying46 rfl (unhide HSZ) ?_)
        rw [← unhide HAA]
        refine Calls.mono (encodeRoot_any z s l m _ hz hs (unhide HL).1 (unhide HM).1 (unhide HL).2 (unhide HM).2) ?_
        rintro r y1 ⟨ve, rfl, ne, ke⟩
        rw [unhide HAA]
        have HY1 := hide ((unhide HKW).trans ke (by simp))
        have HZ1' := hide (ke.heap (unhide HZr) (by simp))
        have HRe := hide ne.1
        obtain ⟨ae, me, ce, hue, hme, _⟩ := id ne.1
        subst hue
        have HME := hide hme
        clear ne ke hme
        go_wp2_with fail
        refine Calls.mono (decodeRoot_any z _ _ y1 hz (unhide HRe)) ?_
        rintro r y2 ⟨rfl, k2⟩
        have HY2 := hide ((unhide HY1).trans k2 (by simp))
        have HZ2' := hide (k2.heap (unhide HZ1') (by simp))
        clear k2
        have HOK := hide (decR_ok z _ (unhide HRe).byte)
        obtain ⟨g, hg⟩ : ∃ g, rootE z l m = g := ⟨_, rfl⟩
        have HGE := hide hg
        rw [hg] at HOK HRe HME ⊢
        clear hg
        obtain ⟨D, hD⟩ : ∃ D, decR z (if g = 0 then rootW z.toNat s l m else []) = D := ⟨_, rfl⟩
        have HDD := hide hD
        rw [hD] at HOK ⊢
        clear hD
        obtain ⟨s2, l2, m2, f2⟩ := D
        simp only at HOK ⊢
        have HSZ2 := hide (rootC_size s2 (unhide HOK).2.1 (unhide HOK).2.2.1)
        have HS2 := hide (by have h9 := (unhide HSZ2).symm.trans zRoot_size2; exact (Option.some.inj h9).symm : Try.zeroCells46.size = (rootC s2 l2 m2).toArray.size)
        have HO1 := hide (rootC_one s2 l2 m2)
        have HZN := hide (heap_alloc_new y2 (.cells Try.zeroCells46 46))
        have ka := ((Kept.refl [] y2).alloc (.cells Try.zeroCells46 46)).setRow (g := y2.heap.size) (Or.inr (Nat.le_refl _)) (rootC s2 l2 m2).toArray
        have HY3 := hide ((unhide HY2).trans ka (by simp))
        have HZ3' := hide (ka.heap (unhide HZ2') (by simp))
        have HG3' := hide (setRow_heap (y2.alloc (.cells Try.zeroCells46 46)) y2.heap.size _ (rootC s2 l2 m2).toArray 46 (0, 0) (unhide HZN))
        clear ka
        obtain ⟨A2, hA2⟩ : ∃ A, (rootC s2 l2 m2).toArray = A := ⟨_, rfl⟩
        have HA2 := hide hA2
        rw [hA2] at HSZ2 HS2 HO1 HY3 HZ3' HG3' ⊢
        clear hA2
        by_cases hg0 : g = 0
        · subst hg0
          rw [if_pos rfl] at HDD HME
          obtain ⟨b1, b2⟩ := decR_back hs (unhide HL).1 (unhide HM).1 (unhide HGE)
          rw [unhide HME] at b2
          obtain ⟨p1, p2, p3, p4⟩ : s = s2 ∧ l = l2 ∧ m = m2 ∧ 0 = f2 := by have h9 := b1.symm.trans (unhide HDD); injection h9 with h1 h2; injection h2 with h2 h3; injection h3 with h3 h4; exact ⟨h1, h2, h3, h4⟩
          subst p1 p2 p3 p4
          have hAA2 : A2 = A := (unhide HA2).symm.trans (unhide HAA)
          subst hAA2
          have heq : ∀ W, (Op.equalIn 10000 46 (.agg A2) (.agg A2)).run Try.prog W = .ok true W := fun W => by
            have h9 := root_eq W s s l m l m (unhide HL).1 (unhide HM).1 (unhide HL).1 (unhide HM).1
            rw [unhide HA2] at h9
            rw [h9]; simp
          have hb2 : ((me : Int) == 8 + 2 * z) = true := by rw [beq_iff_eq]; exact b2
          have hwd : 1 ≤ z ∧ z ≤ 32 := by
            have h9 := unhide HGE
            unfold rootE at h9
            split at h9
            · omega
            · rename_i h1; simpa [widthB] using h1
          have HB2 := hide b2
          clear b1 b2
          go_wp2_with (first
            | (refine wpList_load_rowG rfl 46 _ rfl y2.heap.size rfl _ A2 (0, 0) _ (unhide HG3') Try.underlying46 rfl (unhide HSZ2) ?_)
            | (refine wpList_load_rowG rfl 46 _ rfl (w.heap.size + 1) rfl _ A2 (0, 0) _ (unhide HZ3') Try.underlying46 rfl (unhide HSZ2) ?_)
            | (refine wpList_store_row rfl 46 _ _ rfl y2.heap.size A2 rfl rfl _ Try.zeroCells46 (unhide HZN) (unhide HSZ2) (unhide HS2) (unhide HO1) ?_))
          go_ret
          exact ⟨rfl, (unhide HY3).below (Nat.le_refl _) (by simp)⟩
        · have hgr : ((g : Int) != 0) = true := by rw [bne_iff_ne]; omega
          go_wp2_with (refine wpList_store_row rfl 46 _ _ rfl y2.heap.size A2 rfl rfl _ Try.zeroCells46 (unhide HZN) (unhide HSZ2) (unhide HS2) (unhide HO1) ?_)
          go_ret
          exact ⟨rfl, (unhide HY3).below (Nat.le_refl _) (by simp)⟩
end Go.Proofs.Ytocpfbcbfgbdoaa
