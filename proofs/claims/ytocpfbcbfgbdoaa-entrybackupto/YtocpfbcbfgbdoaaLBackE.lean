import Derived.Test.YtocpfbcbfgbdoaaEMathR
import Derived.Test.YtocpfbcbfgbdoaaEAw
namespace Go.Proofs.Ytocpfbcbfgbdoaa
open Go.RowKit Go.BigFrame
set_option linter.unusedVariables false
set_option linter.unusedSimpArgs false

theorem decB_lt (p : List Nat) : (decB p).1 < 18446744073709551616 := by
  have h0 : (takeB p 0).1 < 18446744073709551616 := by
    unfold takeB
    split
    · show (0 : Nat) < _; decide
    split
    · show (0 : Nat) < _; decide
    · exact rUvar_lt _ _ _
  unfold decB
  split
  · show (0 : Nat) < _; decide
  split
  · show (0 : Nat) < _; decide
  · exact h0

set_option maxRecDepth 100000 in
set_option maxHeartbeats 2000000 in
theorem entryBack_walk (v : Value) (p : List Nat) (z : Int) (w : World) (h : Rd w v p) (hl : p.length ≤ 140737488355328) (hz : -9223372036854775808 ≤ z ∧ z ≤ 9223372036854775807) :
    Calls Try.prog 8 #[v, .int .i64 z] w fun r w' => r = .returned (.bool true) ∧ Below w.heap.size w w' := by
  have H := hide h
  have HB := hide h.byte
  have HLN := hide h.len
  obtain ⟨a1, n1, c1, hv1, hn1, _⟩ := id h
  subst hv1
  subst hn1
  clear h hl
  go_enter Try.func8, Try.ntmps8
  go_wp2_with fail
  refine Calls.mono (eawake_any _) ?_
  rintro r w1 ⟨rfl, k1⟩
  have HK1 := hide k1
  clear k1
  go_wp2_with fail
  refine Calls.mono (twin_any _ p w1 ((unhide H).old (unhide HK1) (by simp))) ?_
  rintro r w2 ⟨rfl, k2, g2⟩
  have HK2 := hide ((unhide HK1).trans k2 (by simp))
  have HR2 := hide (rd_fresh g2 (unhide HB) (unhide HLN))
  clear k2 g2
  go_wp2_with fail
  refine Calls.mono (decode_any _ p w2 (unhide HR2)) ?_
  rintro r w3 ⟨kv, vv, rfl, ok3, k3, _⟩
  have HK3 := hide ((unhide HK2).trans k3 (by simp))
  have HO3 := hide ok3
  obtain ⟨a3, m3, c3, hu3, _⟩ := id ok3.key
  subst hu3
  obtain ⟨a4, m4, c4, hu4, _⟩ := id ok3.val
  subst hu4
  clear k3 ok3 HR2
  obtain ⟨D, hD⟩ : ∃ D, decE p = D := ⟨_, rfl⟩
  have HD := hide hD
  rw [hD] at HO3 ⊢
  clear hD
  obtain ⟨e, f⟩ := D
  simp only at HO3 ⊢
  rw [show enC e (.slice a3 m3 c3) (.slice a4 m4 c4) = #[.int .u8 (e.k : Int), .slice a3 m3 c3, .slice a4 m4 c4] from rfl]
  go_wp2_with fail
  have ka := (Kept.refl [] w3).alloc (.cells #[.int .u8 (e.k : Int), .slice a3 m3 c3, .slice a4 m4 c4] 26)
  have HKA := hide ((unhide HK3).trans ka (by simp))
  have HOA := hide ((unhide HO3).old ka)
  clear ka
  refine Calls.mono (eencode_any e (.slice a3 m3 c3) (.slice a4 m4 c4) _ (unhide HOA)) ?_
  rintro r w5 ⟨v5, rfl, n5, k5⟩
  have HK5 := hide ((unhide HKA).trans k5 (by simp))
  have HR5 := hide n5.1
  obtain ⟨a5, m5, c5, hu5, _⟩ := id n5.1
  subst hu5
  clear n5 k5
  obtain ⟨g, hg⟩ : ∃ g, chkE e = g := ⟨_, rfl⟩
  have HGG := hide hg
  rw [hg] at HR5 ⊢
  clear hg
  by_cases hf : f = 0
  case' pos =>
    subst hf
    obtain ⟨p1, p2⟩ := decE_one (unhide HD) (unhide HB)
    rw [unhide HGG] at p2
    subst p2
    rw [if_pos rfl, ← p1] at HR5
    clear p1
    go_wp2_with fail
    refine Calls.mono (same_any _ _ p p w5 ((unhide H).old (unhide HK5) (by simp)) (unhide HR5)) ?_
    rintro r w6' ⟨rfl, n6, hw6⟩
    rw [decide_eq_true rfl]
    have HK6 := hide (by rw [hw6]; exact (unhide HK5).drewN n6 : Kept [] w w6')
    clear hw6
    revert HK6
    generalize w6' = w6
    intro HK6
    go_wp2_with fail
  case' neg =>
    have hf' : ((f : Int) == 0) = false := by rw [beq_eq_false_iff_ne]; omega
    have HK6 := HK5
    revert HK6
    generalize w5 = w6
    intro HK6
    go_wp2_with fail
  all_goals
    clear HK5 HKA HOA HO3 HK3 HK2 HK1 HR5 HGG HD
    refine Calls.mono (twin_any _ p w6 ((unhide H).old (unhide HK6) (by simp))) ?_
    rintro r w7 ⟨rfl, k7, g7⟩
    have HK7 := hide ((unhide HK6).trans k7 (by simp))
    have HR7 := hide (rd_fresh g7 (unhide HB) (unhide HLN))
    clear k7 g7
    go_wp2_with fail
    refine Calls.mono (decodeBatch_any _ p w7 (unhide HR7)) ?_
    rintro r w8 ⟨bv, rfl, n8, k8⟩
    have HK8 := hide ((unhide HK7).trans k8 (by simp))
    have HN8 := hide n8.rdN
    obtain ⟨a8, m8, c8, _, _, hu8, _⟩ := id n8.rdN
    subst hu8
    clear k8 n8 HR7
    have hflt := decB_lt p
    obtain ⟨D, hD⟩ : ∃ D, decB p = D := ⟨_, rfl⟩
    have HD := hide hD
    rw [hD] at HN8 hflt ⊢
    clear hD
    obtain ⟨fi, es, f9⟩ := D
    simp only at HN8 hflt ⊢
    have ka := (Kept.refl [] w8).alloc (.cells #[.int .u64 (fi : Int), .slice a8 m8 c8] 34)
    have HKA := hide ((unhide HK8).trans ka (by simp))
    have HNA := hide ((unhide HN8).old ka)
    clear ka
    go_wp2_with fail
    refine Calls.mono (encodeBatch_any fi (.slice a8 m8 c8) es _ hflt (unhide HNA)) ?_
    rintro r w9 ⟨v9, rfl, n9, k9⟩
    have HK9 := hide ((unhide HKA).trans k9 (by simp))
    have HR9 := hide n9.1
    obtain ⟨a9, m9, c9, hu9, _⟩ := id n9.1
    subst hu9
    clear n9 k9
    obtain ⟨g9, hg9⟩ : ∃ g, chkB fi es = g := ⟨_, rfl⟩
    have HGG := hide hg9
    rw [hg9] at HR9 ⊢
    clear hg9
    by_cases hf9 : f9 = 0
    case' pos =>
      subst hf9
      obtain ⟨p1, p2, _⟩ := decB_one (unhide HD) (unhide HB)
      rw [unhide HGG] at p2
      subst p2
      rw [if_pos rfl, ← p1] at HR9
      clear p1
      go_wp2_with fail
      refine Calls.mono (same_any _ _ p p w9 ((unhide H).old (unhide HK9) (by simp)) (unhide HR9)) ?_
      rintro r wa' ⟨rfl, na, hwa⟩
      rw [decide_eq_true rfl]
      have HKa := hide (by rw [hwa]; exact (unhide HK9).drewN na : Kept [] w wa')
      clear hwa
      revert HKa
      generalize wa' = wa
      intro HKa
      go_wp2_with fail
    case' neg =>
      have hf9' : ((f9 : Int) == 0) = false := by rw [beq_eq_false_iff_ne]; omega
      have HKa := HK9
      revert HKa
      generalize w9 = wa
      intro HKa
      go_wp2_with fail
  all_goals
    clear HK9 HKA HNA HN8 HK8 HK7 HK6 HR9 HGG HD
    refine Calls.mono (twin_any _ p wa ((unhide H).old (unhide HKa) (by simp))) ?_
    rintro r wb ⟨rfl, kb, gb⟩
    have HKb := hide ((unhide HKa).trans kb (by simp))
    have HRb := hide (rd_fresh gb (unhide HB) (unhide HLN))
    clear kb gb
    go_wp2_with fail
    refine Calls.mono (decodeRoot_any z _ p wb hz (unhide HRb)) ?_
    rintro r wc ⟨rfl, kc⟩
    have HKc := hide ((unhide HKb).trans kc (by simp))
    clear kc HRb
    have HOK := hide (decR_ok z p (unhide HB))
    have HON := hide (fun h => decR_one (z := z) (unhide HB) h)
    obtain ⟨D, hD⟩ : ∃ D, decR z p = D := ⟨_, rfl⟩
    rw [hD] at HOK HON ⊢
    clear hD
    obtain ⟨s, l, m, fr⟩ := D
    simp only at HOK HON ⊢
    have HSZ := hide (rootC_size s (unhide HOK).2.1 (unhide HOK).2.2.1)
    have HS2 := hide (by have h9 := (unhide HSZ).symm.trans zRoot_size2; exact (Option.some.inj h9).symm : Try.zeroCells46.size = (rootC s l m).toArray.size)
    have HO1 := hide (rootC_one s l m)
    have HZN := hide (heap_alloc_new wc (.cells Try.zeroCells46 46))
    have HKd := hide (((unhide HKc).alloc (.cells Try.zeroCells46 46)).setRow (g := wc.heap.size) (Or.inr (unhide HKc).size) (rootC s l m).toArray)
    have HGd := hide (setRow_heap (wc.alloc (.cells Try.zeroCells46 46)) wc.heap.size _ (rootC s l m).toArray 46 (0, 0) (unhide HZN))
    obtain ⟨A, hA⟩ : ∃ A, (rootC s l m).toArray = A := ⟨_, rfl⟩
    have HAA := hide hA
    rw [hA] at HSZ HS2 HO1 HKd HGd ⊢
    clear hA
    go_wp2_with (first
      | (refine wpList_load_row rfl 46 _ rfl wc.heap.size rfl _ A (0, 0) _ (unhide HGd) Try.underlying46 rfl (unhide HSZ) ?_)
      | (refine wpList_store_row rfl 46 _ _ rfl wc.heap.size A rfl rfl _ Try.zeroCells46 (unhide HZN) (unhide HSZ) (unhide HS2) (unhide HO1) ?_))
    rw [← unhide HAA]
    refine Calls.mono (encodeRoot_any z s l m _ hz (unhide HOK).1 (unhide HOK).2.1 (unhide HOK).2.2.1 (unhide HOK).2.2.2.1 (unhide HOK).2.2.2.2) ?_
    rintro r we ⟨ve, rfl, ne, ke⟩
    rw [unhide HAA] at ke ⊢
    have HKe := hide ((unhide HKd).trans ke (by simp))
    have HRe := hide ne.1
    obtain ⟨ae, me, ce, hue, _⟩ := id ne.1
    subst hue
    clear ne ke
    obtain ⟨ge, hge⟩ : ∃ g, rootE z l m = g := ⟨_, rfl⟩
    rw [hge] at HRe HON ⊢
    clear hge
    by_cases hfr : fr = 0
    case pos =>
      subst hfr
      obtain ⟨p1, p2⟩ := unhide HON rfl
      subst p1
      rw [if_pos rfl, p2] at HRe
      clear p2 HON
      go_wp2_with fail
      refine Calls.mono (same_any _ _ p p we ((unhide H).old (unhide HKe) (by simp)) (unhide HRe)) ?_
      rintro r wf ⟨rfl, nf, rfl⟩
      rw [decide_eq_true rfl]
      go_wp2
      go_ret
      exact ⟨rfl, ((unhide HKe).drewN _).below (Nat.le_refl _) (by simp)⟩
    case neg =>
      have hfr' : ((fr : Int) != 0) = true := by rw [bne_iff_ne]; omega
      go_wp2
      go_ret
      exact ⟨rfl, (unhide HKe).below (Nat.le_refl _) (by simp)⟩
end Go.Proofs.Ytocpfbcbfgbdoaa
