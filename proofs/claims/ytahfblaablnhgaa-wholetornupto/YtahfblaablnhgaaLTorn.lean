import Derived.Test.YtahfblaablnhgaaWTMath
import Derived.Test.YtahfblaablnhgaaFShort
import Derived.Test.YtahfblaablnhgaaTTwin
import Derived.Test.YtahfblaablnhgaaTSame
import Derived.Test.YtahfblaablnhgaaFEnc
namespace Go.Proofs.Ytahfblaablnhgaa
open Go.RowKit Go.BigFrame
set_option linter.unusedVariables false
set_option linter.unusedSimpArgs false

theorem RdF.get {w : World} {v : Value} {fs : List (Nat × List Nat)} (h : RdF w v fs) : ∃ ao cap, v = .slice ao fs.length cap ∧ fs.length ≤ cap ∧ cap ≤ 9223372036854775807 ∧ ∀ i, i < fs.length → ∃ b off u, ao = some ⟨b, off, none⟩ ∧ w.cell? ⟨b, off + i * 2, none⟩ = some (.int .u64 ((fs.getD i (0, [])).1 : Int)) ∧ w.cell? ⟨b, off + i * 2 + 1, none⟩ = some u ∧ Rd w u (fs.getD i (0, [])).2 := by
  obtain ⟨ao, cap, ts, rfl, rfl, h3, h4, h5, h6⟩ := h
  refine ⟨ao, cap, by rw [List.length_map], by rw [List.length_map]; exact h3, h4, fun i hi => ?_⟩
  rw [List.length_map] at hi
  obtain ⟨b, off, rfl, hc⟩ := h6 (by omega)
  have e : (ts.map fun t => (t.1, t.2.2)).getD i (0, []) = (ts[i].1, ts[i].2.2) := by rw [List.getD_eq_getElem?_getD, List.getElem?_map, List.getElem?_eq_getElem hi]; rfl
  rw [e]
  exact ⟨b, off, ts[i].2.1, rfl, (hc i hi).1, (hc i hi).2, h5 _ (List.getElem_mem hi)⟩
theorem scan_one : scanF (frB 9 [1]) = ([(9, [1])], 19) := by
  have h := scanF_run (ps := [(9, [1])]) (t := []) (by intro x hx; simp at hx; subst hx; simp) (firstF_short (by simp))
  rw [List.append_nil, runB_one, frB_len] at h
  exact h

theorem ends_get {w : World} {base : Nat} {a : Option Addr} {n c : Nat} {E : List Nat} (h : w.ownsRow base 3 1 (.slice a n c) E.length (E.map iv)) {j : Nat} (hj : j < E.length) : ∃ b, a = some ⟨b, 0, none⟩ ∧ w.cell? ⟨b, j, none⟩ = some (.int .i64 (E.getD j 0 : Nat)) := by
  rcases h.2 with ⟨he, h0⟩ | ⟨g, cap, cur, he, _, hg, hc, hm, hs, ht⟩
  · omega
  · cases he
    refine ⟨g, rfl, ?_⟩
    have := h.cells (g := g) rfl j (iv (E.getD j 0)) (by rw [List.getElem?_map, List.getD_eq_getElem?_getD, List.getElem?_eq_getElem hj]; rfl)
    rw [Addr.add_mid, Nat.zero_add] at this; exact this
theorem pcs_getD : ∀ (ps : List (List Nat)) (a i : Nat), i < ps.length → (pcs a ps).getD i (0, []) = (a + i, fixP (ps.getD i []))
  | [], _, _, h => by simp at h
  | p :: r, a, 0, _ => rfl
  | p :: r, a, i + 1, h => by
    have ih := pcs_getD r (a + 1) i (by simpa using h)
    rw [pcs, List.getD_cons_succ, ih, List.getD_cons_succ, show a + 1 + i = a + (i + 1) by omega]
theorem pcs_getT (ps : List (List Nat)) (k i : Nat) (hk : k ≤ ps.length) (h : i < k) : ((pcs 0 ps).take k).getD i (0, []) = (i, fixP (ps.getD i [])) := by
  have e : ((pcs 0 ps).take k).getD i (0, []) = (pcs 0 ps).getD i (0, []) := by rw [List.getD_eq_getElem?_getD, List.getD_eq_getElem?_getD, List.getElem?_take, if_pos h]
  rw [e, pcs_getD ps 0 i (by omega), Nat.zero_add]

set_option maxRecDepth 100000 in
set_option maxHeartbeats 4000000 in
theorem wholeTorn_walk (v : Value) (ps : List (List Nat)) (at_ no : Nat) (w : World) (h : RdL w v ps) (hf : ps.flatten.length ≤ 1048576) (hl : ps.length ≤ 1048576) (hat : at_ < 4294967296) (hno : no < 65536) :
    Calls Try.prog 3 #[v, .int .u32 at_, .int .u16 no] w fun e w' => e = .returned (.bool true) ∧ Below w.heap.size w w' := by
  obtain ⟨va, vn, vc, vs, rfl, h1, h2, h3, h4, h5, h6⟩ := id h
  have H5 := hide h5
  have H6 := hide h6
  have HV := hide h
  have HPN := hide h2
  clear h5 h6 h
  go_enter Try.func3, Try.ntmps3
  go_wp2_with fail
  refine Calls.mono (encode_any 9 _ [1] _ (rd_lit (heap_alloc_new _ _) rfl (by simp) 1 rfl (by omega)) (by omega)) ?_
  rintro r w1 ⟨v1, rfl, n1, k1⟩
  rw [encE_gd (by simp) (by simp)]
  rw [encB_gd (by simp) (by simp)] at n1
  have HR1 := hide n1.1
  obtain ⟨a1, m1, c1, rfl, hm1, h9⟩ := id n1.1
  rw [frB_len] at hm1
  have hm1' : m1 = 19 := by rw [← hm1]; rfl
  subst hm1'
  have HK1 := hide (((Kept.refl [] w).alloc (.cells #[.int .u8 1] 5)).trans k1 (by simp))
  clear h9 n1 k1 hm1
  go_wp2_with fail
  refine Calls.mono (scan_any _ (frB 9 [1]) _ (unhide HR1) (by rw [frB_len]; simp)) ?_
  rintro r w2 ⟨v2, rfl, f2, k2⟩
  rw [scan_one] at f2 ⊢
  obtain ⟨ao, cap, rfl, hcp, hcp2, hget⟩ := f2.get
  obtain ⟨b2, off2, u2, rfl, q0, _, _⟩ := hget 0 (by simp)
  have HK2 := hide ((unhide HK1).trans k2 (by simp))
  have q0' : w2.cell? ⟨b2, off2, none⟩ = some (.int .u64 9) := q0
  clear f2 k2 HK1 HR1 hget q0
  have HB := hide (fun i => run_bound (ps.take i) 0)
  have hvn : vn ≤ 1048576 := by omega
  have HFT := hide (fun i => (by
    have h9 := congrArg List.length (congrArg List.flatten (List.take_append_drop i ps))
    rw [List.flatten_append, List.length_append] at h9
    omega : (ps.take i).flatten.length ≤ 1048576))
  have HBD := hide (fun i => (by
    have h9 := unhide HB i
    have h8 := unhide HFT i
    rw [List.length_take] at h9
    omega : (runB (pcs 0 (ps.take i))).length ≤ 25000000))
  clear HB HFT
  go_wp2_with fail
  go_loopw [11, 12, 13, 14] (fun t11 t12 t13 t14 wr => ∃ (i : Nat) (ts : List (List Nat × Value)) (n11 c11 n12 c12 n13 c13 : Nat) (a11 a12 a13 : Option Addr), i ≤ vn ∧ t11 = .slice a11 n11 c11 ∧ t12 = .slice a12 n12 c12 ∧ t13 = .slice a13 n13 c13 ∧ t14 = .int .i64 i ∧ Hid (Tri w2 wr (.slice a11 n11 c11) (runB (pcs 0 (ps.take i))) (.slice a12 n12 c12) (endsL ps i) (.slice a13 n13 c13) ts) ∧ Hid (ts.map (·.1) = (ps.take i).map fixP)) (fun _ _ _ t14 _ => vn - (intOf t14).toNat)
  case atStart => exact ⟨0, [], 0, 0, 0, 0, 0, 0, none, none, none, Nat.zero_le _, rfl, rfl, rfl, rfl, hide (Tri.start w2), hide (by simp)⟩
  case round =>
    obtain ⟨i, ts, n11, c11, n12, c12, n13, c13, a11, a12, a13, hi, rfl, rfl, rfl, rfl, HTR, HTS⟩ := hrel
    have HKr := hide ((unhide HK2).trans (unhide HTR).k (by simp))
    by_cases hlt : i < vn
    · have hlt' : (i : Int) < vn := by omega
      obtain ⟨b, off, rfl, hcc⟩ := unhide H5 (by omega)
      have q1 := (unhide HKr).cell (hcc i hlt) (by simp)
      have HP := hide (unhide H6 i hlt)
      have HRS := hide (runB_step ps i (by omega))
      have hbd := unhide HBD i
      have hbd2 := unhide HBD (i + 1)
      generalize hpi : ps.getD i [] = pi at HP HRS
      generalize vs.getD i undef = vi at q1 HP
      have HPI := hide hpi
      obtain ⟨a8, m8, c8, rfl, hm8, h9⟩ := id (unhide HP)
      subst hm8
      clear h9 hpi hcc
      have HPr := hide ((unhide HP).old (unhide HKr) (by simp))
      go_wp2_with fail
      refine Calls.mono (short_any a8 c8 pi 65535 wr (unhide HPr) (by omega)) ?_
      rintro r w3 ⟨rfl, rfl⟩
      have HTX0 := HTR
      by_cases h0 : pi.length = 0
      · have hmin : min 65535 pi.length = 0 := by omega
        rw [hmin]
        have HFE := hide (by unfold fixP; rw [if_pos h0] : fixP pi = [0])
        have kX := (Kept.refl [] w3).alloc (.cells #[.int .u8 0] 5)
        have HTX := hide ((unhide HTR).pass kX)
        have HFO := hide (fixP_ok (unhide HP).byte)
        have HFL := hide (by rw [unhide HFE]; rfl : (fixP pi).length = 1)
        have HEX := hide (by
          rw [unhide HFE]
          have hrow := heap_alloc_new w3 (.cells #[.int .u8 0] 5)
          refine ⟨rd_lit hrow rfl (by simp) 1 rfl (by omega), ?_, ?_, ?_⟩
          all_goals
            intro b9 hb9 e9
            simp only [eblk, blk, List.cons_ne_nil, if_false, List.mem_singleton] at hb9
            subst hb9
          · have := ((unhide HTR).a.lt _ e9).2; omega
          · have := ((unhide HTR).e.lt _ e9).2; omega
          · have := ((unhide HTR).v.own.lt _ e9).2; omega : Ex (w3.alloc (.cells #[.int .u8 0] 5)) (.slice a11 n11 c11) (.slice a12 n12 c12) (.slice a13 n13 c13) (.slice (some ⟨w3.heap.size, 0, none⟩) 1 1) (fixP pi))
        clear kX h0 hmin
        have hwr : IntKind.u64.wrap (i : Int) = i := by simp [IntKind.wrap, IntKind.signed, IntKind.bits]; omega
        go_wp2_with fail
        refine Calls.mono (encode_any i _ (fixP pi) _ (unhide HEX).rd (by omega)) ?_
        rintro r w4 ⟨v4, rfl, n4, k4⟩
        rw [encE_gd (unhide HFO).1 (unhide HFO).2.1]
        rw [encB_gd (unhide HFO).1 (unhide HFO).2.1] at n4
        obtain ⟨a4, m4, c4, rfl, hm4, h9⟩ := id n4.1
        rw [frB_len] at hm4
        have HR4 := hide n4.1
        have HT4 := hide ((unhide HTX).pass k4)
        have HE4 := hide ((unhide HEX).pass k4)
        have hle : ¬ (m4 : Int) ≤ ((1 : Nat) : Int) := by have := unhide HFL; omega
        have hwz : w2.heap.size ≤ w4.heap.size := (unhide HT4).k.size
        obtain ⟨L5, hL5⟩ : ∃ L5, (runB (pcs 0 (ps.take i))).length + (frB i (fixP pi)).length = L5 := ⟨_, rfl⟩
        have HL5 := hide hL5
        have hL5b : L5 ≤ 25000000 := by have h8 := congrArg List.length (unhide HRS); rw [List.length_append] at h8; omega
        have HL6 := hide (by have h8 := congrArg List.length (unhide HRS); rw [List.length_append, hL5] at h8; exact h8 : (runB (pcs 0 (ps.take (i + 1)))).length = L5)
        obtain ⟨xs, hxs⟩ : ∃ xs, ts.map (·.2) = xs := ⟨_, rfl⟩
        have HXS := hide hxs
        have HXL := hide (by have h8 := congrArg List.length (unhide HTS); rw [List.length_map, List.length_map, List.length_take] at h8; rw [← hxs, List.length_map]; omega : xs.length ≤ 1048576)
        have HEL := hide (endsL_len ps i)
        clear h9 n4 k4 hL5 hxs hm4
        go_wp2_with (first
          | (at_builtin; refine wpList_appendAll rfl _ _ rfl rfl w4 w2.heap.size (.slice a11 n11 c11) (runB (pcs 0 (ps.take i))) (frB i (fixP pi)) a4 m4 c4 (unhide HT4).a (unhide HR4) (by have := unhide HL5; omega) hwz rfl rfl ?_; intro ao5 cap5 w5 HO5 HG5 HH5; have HT5 := hide ((unhide HT4).growA (unhide HO5) (unhide HG5) (unhide HH5)); have HE5 := hide ((unhide HE4).growA (unhide HG5) (unhide HH5)); rw [unhide HL5] at HT5 HE5 ⊢; have hw5 : w2.heap.size ≤ w5.heap.size := (unhide HT5).k.size; clear HO5 HG5 HH5)
          | (at_builtin; refine wpList_pushZ3 rfl _ _ rfl rfl (w5.alloc (.cells #[.int .i64 (L5 : Int)] 3)) w2.heap.size (.slice a12 n12 c12) (endsL ps i) [L5] w5.heap.size 1 ((unhide HT5).pass ((Kept.refl [] w5).alloc _)).e (heap_alloc_new _ _) rfl (by omega) (by rw [unhide HEL]; omega) (by simp; omega) rfl rfl ?_; intro g6 cap6 w6 HO6 HG6 HH6; have HT6 := hide (((unhide HT5).pass ((Kept.refl [] w5).alloc _)).growE rfl (unhide HO6) (unhide HG6) (unhide HH6)); have HE6 := hide (((unhide HE5).pass ((Kept.refl [] w5).alloc _)).growE (n := (endsL ps i).length + 1) (cap := cap6) (unhide HG6) (unhide HH6)); have hw6 : w2.heap.size ≤ w6.heap.size := (unhide HT6).k.size; clear HO6 HG6 HH6)
          | (at_builtin; refine wpList_pushV rfl _ _ rfl rfl (w6.alloc (.cells #[.slice (some ⟨w3.heap.size, 0, none⟩) 1 1] 25)) w2.heap.size (.slice a13 n13 c13) xs (.slice (some ⟨w3.heap.size, 0, none⟩) 1 1) w6.heap.size (((unhide HT6).pass ((Kept.refl [] w6).alloc _)).v.xs (unhide HXS)) (heap_alloc_new _ _) rfl (by have := unhide HXL; omega) (by simp; omega) rfl rfl ?_; intro g7 cap7 w7 HO7 HG7 HH7))
        have HE7 := hide ((unhide HE6).pass ((Kept.refl [] w6).alloc (.cells #[.slice (some ⟨w3.heap.size, 0, none⟩) 1 1] 25)))
        have HT7 := hide (((unhide HT6).pass ((Kept.refl [] w6).alloc (.cells #[.slice (some ⟨w3.heap.size, 0, none⟩) 1 1] 25))).growV (unhide HE7).rd (fun b hb => ⟨(unhide HE7).nv b hb, (unhide HE7).lt b hb⟩) (fun b hb => ⟨(unhide HE7).na b hb, (unhide HE7).ne b hb⟩) (unhide HXS) (unhide HO7) (unhide HG7) (unhide HH7))
        rw [← unhide HRS, (by rw [endsL_snoc, unhide HL6] : endsL ps i ++ [L5] = endsL ps (i + 1))] at HT7
        have HTS7 := hide (by
          have e9 : ps.take (i + 1) = ps.take i ++ [pi] := by
            rw [List.take_succ_eq_append_getElem (by omega)]
            have h8 := unhide HPI
            rw [List.getD_eq_getElem?_getD, List.getElem?_eq_getElem (by omega)] at h8
            rw [← h8]; rfl
          rw [e9, List.map_append, List.map_append, unhide HTS]; rfl : (ts ++ [(fixP pi, Value.slice (some ⟨w3.heap.size, 0, none⟩) 1 1)]).map (·.1) = (ps.take (i + 1)).map fixP)
        go_wp2
        go_roundw
        case rel => exact ⟨i + 1, ts ++ [(fixP pi, Value.slice (some ⟨w3.heap.size, 0, none⟩) 1 1)], _, _, _, _, _, _, _, _, _, hlt, rfl, rfl, rfl, by go_num, HT7, HTS7⟩
        case measure => simp [intOf] <;> omega
      · have HFE := hide (by unfold fixP; rw [if_neg h0] : fixP pi = pi.take 65535)
        have HTX := HTR
        have HFO := hide (fixP_ok (unhide HP).byte)
        obtain ⟨mm, hmm⟩ : ∃ mm, min 65535 pi.length = mm := ⟨_, rfl⟩
        have HFL := hide (by rw [unhide HFE, List.length_take]; exact hmm : (fixP pi).length = mm)
        have hmm0 : ¬ (mm : Int) = 0 := by omega
        have HRP := hide (by rw [← hmm]; exact (unhide HP).shortM 65535 : Rd w (.slice a8 mm c8) (pi.take 65535))
        have HEX := hide (by
          rw [unhide HFE]
          have hlt9 := rd_ltF (unhide HRP)
          have hsz := (unhide HK2).size
          refine ⟨(unhide HRP).old (unhide HKr) (by simp), ?_, ?_, ?_⟩
          · intro b9 hb9 e9; have h8 := hlt9 b9 hb9; have := ((unhide HTR).a.lt _ e9).1; omega
          · intro b9 hb9 e9; have h8 := hlt9 b9 hb9; have := ((unhide HTR).e.lt _ e9).1; omega
          · intro b9 hb9 e9; have h8 := hlt9 b9 hb9; have := ((unhide HTR).v.own.lt _ e9).1; omega : Ex w3 (.slice a11 n11 c11) (.slice a12 n12 c12) (.slice a13 n13 c13) (.slice a8 mm c8) (fixP pi))
        rw [hmm]
        clear h0 hmm
        have hwr : IntKind.u64.wrap (i : Int) = i := by simp [IntKind.wrap, IntKind.signed, IntKind.bits]; omega
        go_wp2_with fail
        refine Calls.mono (encode_any i _ (fixP pi) _ (unhide HEX).rd (by omega)) ?_
        rintro r w4 ⟨v4, rfl, n4, k4⟩
        rw [encE_gd (unhide HFO).1 (unhide HFO).2.1]
        rw [encB_gd (unhide HFO).1 (unhide HFO).2.1] at n4
        obtain ⟨a4, m4, c4, rfl, hm4, h9⟩ := id n4.1
        rw [frB_len] at hm4
        have HR4 := hide n4.1
        have HT4 := hide ((unhide HTX).pass k4)
        have HE4 := hide ((unhide HEX).pass k4)
        have hle : ¬ (m4 : Int) ≤ (mm : Int) := by have := unhide HFL; omega
        have hwz : w2.heap.size ≤ w4.heap.size := (unhide HT4).k.size
        obtain ⟨L5, hL5⟩ : ∃ L5, (runB (pcs 0 (ps.take i))).length + (frB i (fixP pi)).length = L5 := ⟨_, rfl⟩
        have HL5 := hide hL5
        have hL5b : L5 ≤ 25000000 := by have h8 := congrArg List.length (unhide HRS); rw [List.length_append] at h8; omega
        have HL6 := hide (by have h8 := congrArg List.length (unhide HRS); rw [List.length_append, hL5] at h8; exact h8 : (runB (pcs 0 (ps.take (i + 1)))).length = L5)
        obtain ⟨xs, hxs⟩ : ∃ xs, ts.map (·.2) = xs := ⟨_, rfl⟩
        have HXS := hide hxs
        have HXL := hide (by have h8 := congrArg List.length (unhide HTS); rw [List.length_map, List.length_map, List.length_take] at h8; rw [← hxs, List.length_map]; omega : xs.length ≤ 1048576)
        have HEL := hide (endsL_len ps i)
        clear h9 n4 k4 hL5 hxs hm4
        go_wp2_with (first
          | (at_builtin; refine wpList_appendAll rfl _ _ rfl rfl w4 w2.heap.size (.slice a11 n11 c11) (runB (pcs 0 (ps.take i))) (frB i (fixP pi)) a4 m4 c4 (unhide HT4).a (unhide HR4) (by have := unhide HL5; omega) hwz rfl rfl ?_; intro ao5 cap5 w5 HO5 HG5 HH5; have HT5 := hide ((unhide HT4).growA (unhide HO5) (unhide HG5) (unhide HH5)); have HE5 := hide ((unhide HE4).growA (unhide HG5) (unhide HH5)); rw [unhide HL5] at HT5 HE5 ⊢; have hw5 : w2.heap.size ≤ w5.heap.size := (unhide HT5).k.size; clear HO5 HG5 HH5)
          | (at_builtin; refine wpList_pushZ3 rfl _ _ rfl rfl (w5.alloc (.cells #[.int .i64 (L5 : Int)] 3)) w2.heap.size (.slice a12 n12 c12) (endsL ps i) [L5] w5.heap.size 1 ((unhide HT5).pass ((Kept.refl [] w5).alloc _)).e (heap_alloc_new _ _) rfl (by omega) (by rw [unhide HEL]; omega) (by simp; omega) rfl rfl ?_; intro g6 cap6 w6 HO6 HG6 HH6; have HT6 := hide (((unhide HT5).pass ((Kept.refl [] w5).alloc _)).growE rfl (unhide HO6) (unhide HG6) (unhide HH6)); have HE6 := hide (((unhide HE5).pass ((Kept.refl [] w5).alloc _)).growE (n := (endsL ps i).length + 1) (cap := cap6) (unhide HG6) (unhide HH6)); have hw6 : w2.heap.size ≤ w6.heap.size := (unhide HT6).k.size; clear HO6 HG6 HH6)
          | (at_builtin; refine wpList_pushV rfl _ _ rfl rfl (w6.alloc (.cells #[.slice a8 mm c8] 25)) w2.heap.size (.slice a13 n13 c13) xs (.slice a8 mm c8) w6.heap.size (((unhide HT6).pass ((Kept.refl [] w6).alloc _)).v.xs (unhide HXS)) (heap_alloc_new _ _) rfl (by have := unhide HXL; omega) (by simp; omega) rfl rfl ?_; intro g7 cap7 w7 HO7 HG7 HH7))
        have HE7 := hide ((unhide HE6).pass ((Kept.refl [] w6).alloc (.cells #[.slice a8 mm c8] 25)))
        have HT7 := hide (((unhide HT6).pass ((Kept.refl [] w6).alloc (.cells #[.slice a8 mm c8] 25))).growV (unhide HE7).rd (fun b hb => ⟨(unhide HE7).nv b hb, (unhide HE7).lt b hb⟩) (fun b hb => ⟨(unhide HE7).na b hb, (unhide HE7).ne b hb⟩) (unhide HXS) (unhide HO7) (unhide HG7) (unhide HH7))
        rw [← unhide HRS, (by rw [endsL_snoc, unhide HL6] : endsL ps i ++ [L5] = endsL ps (i + 1))] at HT7
        have HTS7 := hide (by
          have e9 : ps.take (i + 1) = ps.take i ++ [pi] := by
            rw [List.take_succ_eq_append_getElem (by omega)]
            have h8 := unhide HPI
            rw [List.getD_eq_getElem?_getD, List.getElem?_eq_getElem (by omega)] at h8
            rw [← h8]; rfl
          rw [e9, List.map_append, List.map_append, unhide HTS]; rfl : (ts ++ [(fixP pi, Value.slice a8 mm c8)]).map (·.1) = (ps.take (i + 1)).map fixP)
        go_wp2
        go_roundw
        case rel => exact ⟨i + 1, ts ++ [(fixP pi, Value.slice a8 mm c8)], _, _, _, _, _, _, _, _, _, hlt, rfl, rfl, rfl, by go_num, HT7, HTS7⟩
        case measure => simp [intOf] <;> omega
    · have hlt' : ¬ (i : Int) < vn := by omega
      obtain rfl : i = vn := by omega
      have HTK := hide (List.take_of_length_le (by omega) : ps.take i = ps)
      rw [unhide HTK] at HTR HTS
      have hbd := unhide HBD i
      rw [unhide HTK] at hbd
      have HOQ := hide (pcs_ok ps 0 (fun p hp => (by
        obtain ⟨j, hj, rfl⟩ := List.getElem_of_mem hp
        have h9 := (unhide H6 j (by omega)).byte
        rw [List.getD_eq_getElem?_getD, List.getElem?_eq_getElem hj] at h9
        exact h9)) (by omega))
      have HQL := hide (pcs_len ps 0)
      obtain ⟨x1, x2, hx⟩ := owns_formF (unhide HTR).a
      cases hx
      obtain ⟨x1, x2, hx⟩ := owns_formF (unhide HTR).e
      rw [endsL_len] at hx
      cases hx
      obtain ⟨x1, x2, hx⟩ := owns_formF (unhide HTR).v.own
      have htl : ts.length = i := by have h8 := congrArg List.length (unhide HTS); rw [List.length_map, List.length_map] at h8; omega
      rw [htl] at hx
      cases hx
      obtain ⟨N, hN⟩ : ∃ N, (runB (pcs 0 ps)).length = N := ⟨_, rfl⟩
      rw [hN] at HTR hbd ⊢
      have HN := hide hN
      obtain ⟨left, hleft⟩ : ∃ left, at_ % (N + 1) = left := ⟨_, rfl⟩
      have hll : left ≤ N := by have := Nat.mod_lt at_ (show 0 < N + 1 by omega); omega
      have hm8 : (at_ : Int) % ((N : Int) + 1) = (left : Int) := by rw [← hleft]; rfl
      have hm9 : (at_ : Int).tmod ((N : Int) + 1) = (left : Int) := by rw [Int.tmod_eq_emod_of_nonneg (by omega)]; exact hm8
      clear hN HBD hleft
      have HRA := hide (rd_owns (unhide HTR).a (runB_byte (unhide HOQ)) (by rw [unhide HN]; omega))
      have HRL := hide ((unhide HRA).short (k := left) (by rw [unhide HN]; exact hll))
      have HQLR := hide (runB_byte (unhide HOQ))
      have hlc : left ≤ c11 := by obtain ⟨_, _, _, hE, _, hc9, _⟩ := id (unhide HRA); cases hE; omega
      have hlc' : (left : Int) ≤ c11 := by omega
      go_wp2_with fail
      refine Calls.mono (ttwin_any _ _ _ (unhide HRL) (by rw [List.length_take]; omega)) ?_
      rintro r w4 ⟨ao4, cap4, rfl, ho4, k4⟩
      have hl4 : ((runB (pcs 0 ps)).take left).length = left := by rw [List.length_take, unhide HN]; omega
      rw [hl4] at ho4 ⊢
      have HO4 := hide ho4
      obtain ⟨R2, hR2⟩ : ∃ R2, R2 = wr := ⟨_, rfl⟩
      subst hR2
      have HK4 := hide k4
      have hsz4 := k4.size
      clear ho4 k4 HRA HRL
      obtain ⟨AL, hAL⟩ : ∃ AL, (runB (pcs 0 ps)).take left = AL := ⟨_, rfl⟩
      have HAL := hide hAL
      have HALB := hide (fun x hx => unhide HQLR x (List.mem_of_mem_take (by rw [hAL]; exact hx)) : ∀ x ∈ AL, x < 256)
      rw [hAL] at HO4 hl4
      have HLA := hide hl4
      clear hAL hl4
      go_wp2_with fail
      go_loopw [19, 20] (fun t19 t20 wr => ∃ (j n cap : Nat) (ao : Option Addr), j ≤ no ∧ t19 = .slice ao n cap ∧ t20 = .int .i64 j ∧ Hid (wr.ownsRow R2.heap.size 5 1 (.slice ao n cap) (AL ++ List.replicate j 0).length ((AL ++ List.replicate j 0).map u8)) ∧ Hid (Kept [] R2 wr)) (fun _ t20 _ => no - (intOf t20).toNat)
      case atStart => exact ⟨0, _, _, _, Nat.zero_le _, rfl, rfl, hide (by have h9 := unhide HO4; rw [List.replicate_zero, List.append_nil, unhide HLA]; exact h9), HK4⟩
      case round =>
        obtain ⟨j, n, cap, ao, hj, rfl, rfl, HB, HKr⟩ := hrel
        by_cases hlt2 : j < no
        · have hlt2' : (j : Int) < no := by omega
          have HBX := hide (((Kept.refl [] wr).alloc (.cells #[.int .u8 0] 5)).owns (unhide HB) (by simp))
          have HKX := hide ((unhide HKr).alloc (.cells #[.int .u8 0] 5))
          have hsz5 := (unhide HKr).size
          have hjl : (AL ++ List.replicate j 0).length = left + j := by rw [List.length_append, List.length_replicate, unhide HLA]
          have HJL := hide hjl
          go_wp2_with (at_builtin; refine wpList_appendAll rfl _ _ rfl rfl (wr.alloc (.cells #[.int .u8 0] 5)) R2.heap.size (.slice ao n cap) (AL ++ List.replicate j 0) [0] (some ⟨wr.heap.size, 0, none⟩) 1 1 (unhide HBX) (rd_lit (heap_alloc_new _ _) rfl (by simp) 1 rfl (by omega)) (by rw [unhide HJL]; simp; omega) (by simp; omega) rfl rfl ?_; intro ao6 cap6 w6 HO6 HG6 HH6)
          have HO7 := hide (by have h9 := unhide HO6; rw [List.append_assoc, show List.replicate j 0 ++ [0] = List.replicate (j + 1) (0 : Nat) by rw [List.replicate_succ'], unhide HJL] at h9; exact h9 : w6.ownsRow R2.heap.size 5 1 (.slice ao6 (left + j + 1) cap6) (AL ++ List.replicate (j + 1) 0).length ((AL ++ List.replicate (j + 1) 0).map u8))
          have HK7 := hide ((unhide HKX).grown (unhide HG6) (by intro k hk; right; exact ((unhide HBX).lt k hk).1))
          go_wp2
          go_roundw
          case rel => exact ⟨j + 1, _, _, _, hlt2, rfl, by go_num, HO7, HK7⟩
          case measure => simp [intOf] <;> omega
        · have hlt2' : ¬ (j : Int) < no := by omega
          obtain rfl : j = no := by omega
          have HT5 := hide ((unhide HTR).pass (unhide HKr))
          have HRB := hide (rd_owns (unhide HB) (fun x hx => by rcases List.mem_append.1 hx with h | h; exact unhide HALB x h; simp at h; omega) (by rw [List.length_append, List.length_replicate, unhide HLA]; omega))
          have HKW := hide ((unhide HK2).trans (unhide HT5).k (by simp))
          clear HB HKr HO4 HK4
          go_wp2_with fail
          refine Calls.mono (scan_any _ _ _ (unhide HRB) (by rw [List.length_append, List.length_replicate, unhide HLA]; omega)) ?_
          rintro r w6 ⟨v6, rfl, f6, k6⟩
          obtain ⟨fs, us, hsf⟩ : ∃ fs us, scanF (AL ++ List.replicate j 0) = (fs, us) := ⟨_, _, rfl⟩
          rw [hsf] at f6 ⊢
          obtain ⟨a6, c6, rfl, hcp6, hcp7, hget6⟩ := f6.get
          have HSF := hide hsf
          have HG6 := hide hget6
          obtain ⟨fn, hfn⟩ : ∃ fn, fs.length = fn := ⟨_, rfl⟩
          rw [hfn] at hcp6 HG6 ⊢
          have HFN := hide hfn
          have HT6 := hide ((unhide HT5).pass k6)
          have HKF := hide ((unhide HKW).trans k6 (by simp))
          have HRW := hide (by have h9 := (unhide HT6).v.rdl; rw [unhide HTS] at h9; exact h9 : RdL w6 (.slice a13 i c13) (ps.map fixP))
          clear hsf f6 k6 hget6 hfn HKW HRB HT5
          obtain ⟨R6, hR6⟩ : ∃ R6, R6 = w6 := ⟨_, rfl⟩
          go_wp2_with fail
          go_loopw [23] (fun t23 wrz => ∃ k : Nat, k ≤ i ∧ t23 = .int .i64 k ∧ wrz = R6 ∧ Hid ((runB (pcs 0 (ps.take k))).length ≤ left)) (fun t _ => i - (intOf t).toNat)
          case atStart => exact ⟨0, Nat.zero_le _, rfl, hR6.symm, hide (by simp [pcs, runB])⟩
          case round =>
            obtain ⟨k, hk, rfl, hRR, HLK⟩ := hrel
            subst hR6
            subst hRR
            by_cases hgo : k < i ∧ (runB (pcs 0 (ps.take (k + 1)))).length ≤ left
            · obtain ⟨hkl, hle⟩ := hgo
              obtain ⟨b7, rfl, q7⟩ := ends_get (unhide HT6).e (j := k) (by rw [endsL_len]; exact hkl)
              rw [endsL_get ps i k hkl] at q7
              obtain ⟨L, hL⟩ : ∃ L, (runB (pcs 0 (ps.take (k + 1)))).length = L := ⟨_, rfl⟩
              have HLL := hide (by omega : (runB (pcs 0 (ps.take (k + 1)))).length ≤ left)
              rw [hL] at q7 hle
              clear hL
              have hle' : (L : Int) ≤ left := by omega
              have hkl' : (k : Int) < i := by omega
              go_wp2
              go_roundw
              case rel => exact ⟨k + 1, hkl, by go_num, trivial, HLL⟩
              case measure => simp [intOf] <;> omega
            · have HNX := hide (fun hkl => by omega : k < i → left < (runB (pcs 0 (ps.take (k + 1)))).length)
              have hpl : ps.length = i := by have := unhide HPN; omega
              have HSC := hide (by
                have h9 := scan_cut (unhide HOQ) left j k (by rw [unhide HQL]; omega) (by rw [pcs_take _ _ (by omega)]; exact unhide HLK) (by rw [unhide HN]; exact hll) (fun hx => by rw [pcs_take _ _ (by rw [unhide HQL] at hx; omega)]; exact unhide HNX (by rw [unhide HQL] at hx; omega))
                rw [unhide HAL, unhide HSF] at h9
                exact h9 : (fs, us) = ((pcs 0 ps).take k, (runB ((pcs 0 ps).take k)).length))
              have hfs : fs = (pcs 0 ps).take k := congrArg Prod.fst (unhide HSC)
              have HFS := hide hfs
              clear hfs
              have hus : us = (runB ((pcs 0 ps).take k)).length := congrArg Prod.snd (unhide HSC)
              rw [pcs_take _ _ (by omega)] at hus
              obtain rfl : fn = k := by rw [← unhide HFN, unhide HFS, List.length_take, unhide HQL]; omega
              have HGT := hide (fun x (hx : x < fn) => by
                have h9 := unhide HG6 x hx
                rw [show fs = (pcs 0 ps).take fn from unhide HFS, pcs_getT ps fn x (by omega) hx] at h9
                exact h9)
              have hE : (∃ b7 L : Nat, a12 = some ⟨b7, 0, none⟩ ∧ ¬ (L : Int) ≤ left ∧ (fn : Int) < i ∧ wr.cell? ⟨b7, fn, none⟩ = some (.int .i64 L)) ∨ ¬ (fn : Int) < i := by
                by_cases hkl : fn < i
                · obtain ⟨b7, h7, q7⟩ := ends_get (unhide HT6).e (j := fn) (by rw [endsL_len]; exact hkl)
                  rw [endsL_get ps i fn hkl] at q7
                  exact .inl ⟨b7, _, h7, by have := unhide HNX hkl; omega, by omega, q7⟩
                · exact .inr (by omega)
              have hz : (fn = 0 ∧ us = 0) ∨ ∃ k' b8 : Nat, fn = k' + 1 ∧ a12 = some ⟨b8, 0, none⟩ ∧ wr.cell? ⟨b8, k', none⟩ = some (.int .i64 us) := by
                rcases Nat.eq_zero_or_pos fn with h0 | h0
                · left; refine ⟨h0, ?_⟩; rw [hus, h0]; rfl
                · right
                  obtain ⟨k', rfl⟩ : ∃ k', fn = k' + 1 := ⟨fn - 1, by omega⟩
                  obtain ⟨b8, h8, q8⟩ := ends_get (unhide HT6).e (j := k') (by rw [endsL_len]; omega)
                  rw [endsL_get ps i k' (by omega), ← hus] at q8
                  exact ⟨k', b8, rfl, h8, q8⟩
              clear hus HSC HFS HSF HLK HNX hgo HN HAL HLA HALB HQLR hpl HG6
              rcases hz with ⟨h0, hu⟩ | ⟨k', b8, hk', he8, q8⟩
              · subst hu
                subst h0
                rcases hE with ⟨b7, L, rfl, hL, hkl', q7⟩ | hkl'
                all_goals go_wp2_with fail
                all_goals (
                  obtain ⟨R7, hR7⟩ : ∃ R7, R7 = wr := ⟨_, rfl⟩
                  subst hR7
                  go_loopw [24] (fun t24 wrz => t24 = .int .i64 0 ∧ Hid (wrz = R7)) (fun t _ => 0)
                  case atStart => exact ⟨rfl, hide rfl⟩
                  case round =>
                    obtain ⟨rfl, HRR⟩ := hrel
                    have hRR := unhide HRR
                    subst hRR
                    go_wp2
                    go_ret
                    exact ⟨rfl, (unhide HKF).below (Nat.le_refl _) (by simp)⟩)
              · have hb0 : ((fn : Int) == 0) = false := by simp; omega
                have hb1 : ¬ (fn : Int) = 0 := by omega
                have hb2 : (0 : Int) < fn := by omega
                have hb3 : (fn : Int) - 1 = k' := by omega
                have hb4 : (k' : Int) < i := by omega
                have HFK := hide hk'
                clear hk'
                rcases hE with ⟨b7, L, h7, hL, hkl', q7⟩ | hkl'
                all_goals try (rw [he8] at h7; cases h7)
                all_goals subst he8
                all_goals go_wp2_with fail
                all_goals (
                  obtain ⟨R7, hR7⟩ : ∃ R7, R7 = wr := ⟨_, rfl⟩
                  subst hR7
                  go_loopw [24] (fun t24 wrz => ∃ x : Nat, x ≤ fn ∧ t24 = .int .i64 x ∧ Hid (Kept [] R7 wrz)) (fun t _ => fn - (intOf t).toNat)
                  case atStart => exact ⟨0, Nat.zero_le _, rfl, hide (Kept.refl _ _)⟩
                  case round =>
                    obtain ⟨x, hx, rfl, HKJ⟩ := hrel
                    by_cases hxl : x < fn
                    · have hxl' : (x : Int) < fn := by omega
                      have hxi' : (x : Int) < i := by omega
                      obtain ⟨b9, off9, u9, rfl, p1, p2, r9⟩ := unhide HGT x hxl
                      obtain ⟨_, _, _, vs9, hE9, e1, e2, e3, e4, e5, e6⟩ := id (unhide HRW)
                      cases hE9
                      obtain ⟨b10, off10, rfl, e7⟩ := e5 (by omega)
                      have p3 := e7 x (by omega)
                      have r10 := e6 x (by omega)
                      have hmx : (ps.map fixP).getD x [] = fixP (ps.getD x []) := by
                        rw [List.getD_eq_getElem?_getD, List.getElem?_map, List.getD_eq_getElem?_getD, List.getElem?_eq_getElem (by omega)]; rfl
                      rw [hmx] at r10
                      generalize vs9.getD x undef = u10 at p3 r10
                      generalize fixP (ps.getD x []) = pay at p1 p2 r9 r10
                      obtain ⟨a8, m8, c8, rfl, hm8, _⟩ := id r10
                      obtain ⟨a7, m7, c7, rfl, hm7, _⟩ := id r9
                      have p1' : wr.cell? ⟨b9, off9 + x * 2, none⟩ = some (.int .u64 (x : Int)) := (unhide HKJ).cell p1 (by simp)
                      replace p2 := (unhide HKJ).cell p2 (by simp)
                      replace p3 := (unhide HKJ).cell p3 (by simp)
                      have HA := hide (r9.old (unhide HKJ) (by simp))
                      have HB := hide (r10.old (unhide HKJ) (by simp))
                      have HKD := hide (unhide HKJ).drew
                      have HP1 := hide p1'
                      have HP2 := hide p2
                      have HP3 := hide p3
                      have hwr : IntKind.u64.wrap (x : Int) = x := by simp [IntKind.wrap, IntKind.signed, IntKind.bits]; omega
                      clear p1 r9 r10 e1 e2 e3 e4 e5 e6 e7 hmx hm8 hm7
                      go_wp2_with fail
                      go_region_held3 (fun w' => (w'.cell? ⟨b9, off9 + x * 2, none⟩ = some (.int .u64 (x : Int)) ∧ w'.cell? ⟨b9, off9 + x * 2 + 1, none⟩ = some (.slice a7 m7 c7)) ∧ w'.cell? ⟨b10, off10 + x, none⟩ = some (.slice a8 m8 c8)) (go_keep) (first
                        | (go_at_call 8; refine (tsame_any _ _ pay pay _ (by exact unhide HA) (by exact unhide HB)).mono ?_; rintro e wf ⟨rfl, rfl⟩; rw [show decide (pay = pay) = true by simp]))
                      go_wp2
                      go_roundw
                      case rel => exact ⟨x + 1, hxl, by go_num, HKD⟩
                      case measure => simp [intOf] <;> omega
                    · have hxl' : ¬ (x : Int) < fn := by omega
                      go_wp2
                      go_ret
                      exact ⟨rfl, ((unhide HKF).trans (unhide HKJ) (by simp)).below (Nat.le_refl _) (by simp)⟩)
end Go.Proofs.Ytahfblaablnhgaa
