import Derived.Test.YtdnacefdihipnaaOneWay
import Derived.Test.YtdnacefdihipnaaLBack
namespace Go.Proofs.Ytdnacefdihipnaa
open Go.RowKit
set_option linter.unusedVariables false
set_option linter.unusedSimpArgs false

theorem take_take_drop {P : List Nat} {i j : Nat} (h : i ≤ j) : P.take i ++ (P.drop i).take (j - i) = P.take j := by
  rw [show j = i + (j - i) from by omega, List.take_add, show i + (j - i) - i = j - i from by omega]

theorem rTake_qlen {P : List Nat} {i e j v e' : Nat} {q : List Nat} {k n : Int} (h : rTake P i e k n = (v, q, j, e')) : q.length ≤ P.length := by
  have h2 := congrArg (fun t => t.2.1) h
  simp only at h2
  rw [← h2]
  have hR : (rRaw P i e n).1.length ≤ P.length := by
    simp only [rRaw]
    repeat' split
    all_goals simp
    omega
  have hB : (rBlob P i e n).1.length ≤ P.length := by
    simp only [rBlob]
    repeat' split
    all_goals simp
    omega
  rcases kinds7 k with rfl | rfl | rfl | rfl | rfl | rfl | rfl | ⟨g1, g2, g3, g4, g5, g6, g7⟩
  · simp [rTake]
  · simp [rTake]
  · simp [rTake]
  · simp [rTake]
  · simp [rTake]
  · exact hR
  · exact hB
  · simp [rTake, g1, g2, g3, g4, g5, g6, g7]

set_option maxRecDepth 100000 in
set_option maxHeartbeats 8000000 in
theorem wireOneWay_walk (pv : Value) (P : List Nat) (sv : Value) (ops : List OpD) (w : World) (hp : Rd w pv P) (hpl : P.length ≤ 1048576) (hs : SRd w sv ops) (hl : (scriptB ops).length ≤ 4194304) (hop : ∀ o ∈ ops, o.p.length ≤ 1048576) (hlen : ops.length ≤ 1048576) :
    Calls Try.prog 8 #[pv, sv] w fun e w' => e = .returned (.bool true) ∧ Below w.heap.size w w' := by
  have HS := hide hs
  have HPr := hide hp
  have hby := hp.byte
  obtain ⟨ao0, n0, c0, rfl, hn0, hcap, ⟨hcap2, _⟩, _⟩ := hp
  subst hn0
  have hbn := fun (o : OpD) (ho : o ∈ ops) => (by obtain ⟨_, _, _, _, _, _, h3, _⟩ := id hs; exact (h3 o ho).2.2.2.1 : -9223372036854775808 ≤ o.n)
  have hbn2 := fun (o : OpD) (ho : o ∈ ops) => (by obtain ⟨_, _, _, _, _, _, h3, _⟩ := id hs; exact (h3 o ho).2.2.2.2.1 : o.n ≤ 9223372036854775807)
  obtain ⟨ao, cap, rfl, h1, h2, h2', h3, h4⟩ := hs
  have Hby := hide hby
  have Hbn := hide hbn
  have Hbn2 := hide hbn2
  have Hone := hide (fun (i j v : Nat) (q : List Nat) (k n : Int) (h : rTake P i 0 k n = (v, q, j, 0)) (hi : i ≤ P.length) (hk : 1 ≤ k ∧ k ≤ 7) => rTake_one h hby hi hk)
  clear h3 h4 hop hby hbn hbn2
  go_enter Try.func8, Try.ntmps8
  go_wp2_with fail
  refine (awake_any _).mono ?_
  rintro e w1 ⟨rfl, k1⟩
  have HK1 := hide k1
  clear k1
  go_wp2_with fail
  refine (twin_any _ P _ (by exact (unhide HPr).old (unhide HK1) (by simp))).mono ?_
  rintro e w2 ⟨rfl, k2, hz2⟩
  have HG := hide hz2
  have HK2 := hide ((unhide HK1).trans k2 (by simp))
  clear hz2 k2
  go_wp2_with fail
  refine (newReader_any _ P _ (by exact rd_fresh (unhide HG) (unhide Hby) (by omega))).mono ?_
  rintro e w3 ⟨b, gv, rfl, hb, hr3, hg3, k3⟩
  have HR3 := hide (hr3.kept ((Kept.refl [] w3).alloc (.cells #[.slice none 0 0] 26)) (by simp) (by simp))
  have HK3 := hide (((unhide HK2).trans k3 (by simp)).alloc (.cells #[.slice none 0 0] 26))
  have hb3 : w.heap.size ≤ b := by have := (unhide HK2).size; omega
  have hw3 : w.heap.size ≤ w3.heap.size := by have := ((unhide HK2).trans k3 (by simp)).size; omega
  have hbw : b < w3.heap.size := hr3.lt
  have Hgv := hide (fun x (hx : x ∈ blk gv) => (hg3 x hx).2 : ∀ x ∈ blk gv, x < w3.heap.size)
  clear hr3 hg3 k3 HG
  go_wp2_with fail
  go_loopw [8, 9, 10, 20] (fun t8 t9 t10 t20 wr => ∃ (k i : Nat) (v : Value) (bs : List Nat), k ≤ ops.length ∧ i ≤ P.length ∧ t20 = .int .i64 k ∧ Hid (bs = P.take i) ∧ Hid (ReAt wr b gv P i 0) ∧ Hid (WrAt wr w3.heap.size v bs) ∧ Hid (Kept [] w wr) ∧ Hid (∀ g, v.ownBlock = some g → w3.heap.size ≤ g)) (fun _ _ _ i _ => ops.length - (intOf i).toNat)
  case atStart => exact ⟨0, 0, _, [], Nat.zero_le _, Nat.zero_le _, rfl, hide (by simp), HR3, WrAt.new w3, HK3, hide (by simp [Value.ownBlock])⟩
  case round =>
    obtain ⟨k, i, v, bs, hk, hiP, rfl, Hbs, HR, HW, HK, HO⟩ := hrel
    have hbl : bs.length = i := by rw [unhide Hbs]; simp; omega
    have Hbl := hide hbl
    clear hbl
    by_cases hlt : k < ops.length
    · have hko : ops[k]? = some ops[k] := List.getElem?_eq_getElem hlt
      have hg := (unhide HS).get (unhide HK) k _ hko
      have hm1 := unhide Hbn _ (List.getElem_mem hlt)
      have hm2 := unhide Hbn2 _ (List.getElem_mem hlt)
      generalize ops[k] = o at hg hm1 hm2
      obtain ⟨bo, off, ao2, n2, c2, he, hpv, d0, d1, d2, d3, a1, hbl, hrd⟩ := hg
      cases he
      obtain ⟨ok, ox, on, opv, op⟩ := o
      simp only at hpv d0 d1 d2 a1 hrd hm1 hm2
      subst hpv
      have a1' : (ox : Int) ≤ 18446744073709551615 := by omega
      have hkl : (k : Int) < (ops.length : Int) := by omega
      clear hrd hko
      rcases kinds_in ok with q1 | ⟨q1, q2⟩ | ⟨q1, q2⟩
      · go_wp2
        go_roundw
        case rel => exact ⟨k + 1, i, v, bs, by omega, hiP, by go_num, Hbs, hide ((unhide HR).kept ((Kept.refl [] wr).alloc _) (by simp) (by simp)), hide ((unhide HW).alloc _), hide ((unhide HK).alloc _), HO⟩
        case measure => simp [intOf]; omega
      · go_wp2
        go_roundw
        case rel => exact ⟨k + 1, i, v, bs, by omega, hiP, by go_num, Hbs, hide ((unhide HR).kept ((Kept.refl [] wr).alloc _) (by simp) (by simp)), hide ((unhide HW).alloc _), hide ((unhide HK).alloc _), HO⟩
        case measure => simp [intOf]; omega
      · obtain ⟨z, qq, j, e5, hT⟩ : ∃ z q j e, rTake P i 0 ok on = (z, q, j, e) := ⟨_, _, _, _, rfl⟩
        have HT := hide hT
        clear hT
        have hbwr : b < wr.heap.size := (unhide HR).lt
        have hawr : w3.heap.size < wr.heap.size := (unhide HW).lt
        go_wp2_with fail
        refine (take_any b gv _ i 0 ok ox on _ _ (by exact (unhide HR).kept ((Kept.refl [] wr).alloc _) (by simp) (by simp)) ⟨hm1, hm2⟩).mono ?_
        rintro e w5 ⟨rv, rfl, hr5, hr52, k5, hb5⟩
        rw [unhide HT] at hr5 hr52 ⊢
        simp only at hr5 hr52
        have hc5 := k5.heap (heap_alloc_new wr _) (by simp; omega)
        have e0 : w5.cell? ⟨wr.heap.size, 0, none⟩ = some (.int .i64 ok) := by rw [cell_of_row _ _ _ _ _ _ hc5]; rfl
        have HR5 := hide hr52
        have HRv := hide hr5
        have HBv := hide (fun x (hx : x ∈ blk rv) => hb5 x hx)
        have HK5 := hide (((unhide HK).alloc _).trans k5 (by simpa using hb3))
        have HW5 := hide (((unhide HW).alloc (.cells #[.int .i64 ok, .int .u64 ox, .int .i64 on, .slice ao2 n2 c2] 29)).kept k5 (by simp; omega) (by intro g hg; have := unhide HO g hg; simp; omega))
        obtain ⟨ao5, n5, c5, hrv⟩ : ∃ ao n c, rv = .slice ao n c := by obtain ⟨ao, n, c, e, _⟩ := hr5; exact ⟨ao, n, c, e⟩
        subst hrv
        clear hr5 hr52 k5 hb5 hc5
        by_cases he5 : e5 = 0
        · subst he5
          obtain ⟨hlay, hij, hjP, hz64⟩ := unhide Hone i j z qq ok on (unhide HT) hiP (by omega)
          have Hlay := hide (by rw [unhide Hbs, hlay, take_take_drop hij] : bs ++ layB ok z qq = P.take j)
          clear hlay
          have hql := (unhide HRv).len
          go_wp2_with fail
          refine (rerr_any b gv _ j 0 _ (unhide HR5)).mono ?_
          rintro e w6 ⟨rfl, hw6⟩
          subst w6
          have hz64' : (z : Int) ≤ 18446744073709551615 := by omega
          go_wp2_with fail
          refine (lay_any w3.heap.size v bs ok z 0 _ qq _ (unhide HW5) (by exact fun w' kw => (unhide HRv).kept kw (by intro x hx; have h1 := unhide HBv x hx; simp only [List.mem_cons, Option.mem_toList, not_or]; simp at h1; exact ⟨by omega, fun h => by have := (unhide HW).ownlt h; omega⟩)) hz64 (by have h7 := unhide Hbl; have h8 := rTake_qlen (unhide HT); omega)).mono ?_
          rintro e w7 ⟨rfl, v7, h7, k7⟩
          rw [unhide Hlay] at h7
          have HW7 := hide h7
          have hgb := fun x (hx : x ∈ blk gv) => unhide Hgv x hx
          have HR7 := hide ((unhide HR5).kept k7.kept (by simp only [List.mem_cons, Option.mem_toList, not_or]; exact ⟨by omega, fun h => by have := unhide HO b h; omega⟩) (by intro x hx; have h9 := hgb x hx; simp only [List.mem_cons, Option.mem_toList, not_or]; exact ⟨by omega, fun h => by have := unhide HO x h; omega⟩))
          have HK7 := hide ((unhide HK5).wr k7.kept hw3 (fun g hg => by have := unhide HO g hg; omega))
          have HO7 := hide (k7.fresh (unhide HO) (by have := (unhide HW5).lt; omega))
          clear h7 k7 hgb e0
          go_wp2_with fail
          refine (rat_any b gv _ j 0 _ (unhide HR7)).mono ?_
          rintro e w8 ⟨rfl, hw8⟩
          subst w8
          have tj0 : ¬ (j : Int) < 0 := by omega
          have tjP : ¬ (P.length : Int) < j := by omega
          have hjP' : (j : Int) ≤ P.length := by omega
          go_wp2_with fail
          refine (rat_any b gv _ j 0 _ (unhide HR7)).mono ?_
          rintro e w8 ⟨rfl, hw8⟩
          subst w8
          go_wp2_with fail
          refine (wbytes_any w3.heap.size v7 (P.take j) _ (unhide HW7) (by simp; omega)).mono ?_
          rintro e w8 ⟨rfl, k8, h8⟩
          have hjl : (P.take j).length = j := by simp; omega
          have HF8 := hide (rd_fresh h8 (unhide HW7).byte (by omega))
          rw [hjl] at HF8 ⊢
          have HR8 := hide ((unhide HR7).kept k8 (by simp) (by simp))
          have HW8 := hide ((unhide HW7).kept k8 (by simp) (by simp))
          have HK8 := hide ((unhide HK7).trans k8 (by simp))
          have Hjl := hide hjl
          clear k8 h8 hjl
          go_wp2_with fail
          refine (rat_any b gv _ j 0 _ (unhide HR8)).mono ?_
          rintro e w9 ⟨rfl, hw9⟩
          subst w9
          go_wp2_with fail
          refine (same_any _ _ (P.take j) (P.take j) _ (unhide HF8) (by exact ((unhide HPr).take (by omega)).old (unhide HK8) (by simp))).mono ?_
          rintro e w9 ⟨rfl, m9, hw9⟩
          have HR9 := hide (by rw [hw9]; exact (unhide HR8).drewN m9 : ReAt w9 b gv P j 0)
          have HW9 := hide (by rw [hw9]; exact (unhide HW8).drewN m9 : WrAt w9 w3.heap.size v7 (P.take j))
          have HK9 := hide (by rw [hw9]; exact (unhide HK8).drewN m9 : Kept [] w w9)
          clear hw9 m9
          go_wp2
          go_roundw
          case rel => exact ⟨k + 1, j, v7, _, by omega, hjP, by go_num, rfl, HR9, HW9, HK9, HO7⟩
          case measure => simp [intOf]; omega
        · have hji := rTake_fault (unhide HT) he5
          subst hji
          have te : ((e5 : Int) != 0) = true := by rw [bne_iff_ne]; omega
          clear he5
          go_wp2_with fail
          refine (rerr_any b gv _ j e5 _ (unhide HR5)).mono ?_
          rintro e w6 ⟨rfl, hw6⟩
          subst w6
          go_wp2_with fail
          refine (rat_any b gv _ j e5 _ (unhide HR5)).mono ?_
          rintro e w6 ⟨rfl, hw6⟩
          subst w6
          go_wp2_with fail
          refine (wlen_any w3.heap.size v bs _ (unhide HW5)).mono ?_
          rintro e w6 ⟨rfl, hw6⟩
          subst w6
          rw [unhide Hbl]
          go_wp2
          go_ret
          exact ⟨by simp, (unhide HK5).below (Nat.le_refl _) (by simp)⟩
    · have hlt' : ¬ (k : Int) < (ops.length : Int) := by omega
      go_wp2_with fail
      refine (rat_any b gv _ i 0 _ (unhide HR)).mono ?_
      rintro e w6 ⟨rfl, hw6⟩
      subst w6
      go_wp2_with fail
      refine (wlen_any w3.heap.size v bs _ (unhide HW)).mono ?_
      rintro e w6 ⟨rfl, hw6⟩
      subst w6
      rw [unhide Hbl]
      go_wp2
      go_ret
      exact ⟨by simp, (unhide HK).below (Nat.le_refl _) (by simp)⟩
end Go.Proofs.Ytdnacefdihipnaa
