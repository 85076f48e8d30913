import Derived.Test.YtdnacefdihipnadLWhole0
namespace Go.Proofs.Ytdnacefdihipnad
open Go.RowKit
set_option linter.unusedVariables false
set_option linter.unusedSimpArgs false

set_option maxRecDepth 100000 in
set_option maxHeartbeats 8000000 in
theorem wholeWire_walk (sv : Value) (ops : List OpD) (cut : Nat) (w : World) (hs : TRd w sv ops) (hl : (scriptB ops).length ≤ 4194304) (hop : ∀ o ∈ ops, o.p.length ≤ 1048576 ∧ 1 ≤ o.k ∧ o.k ≤ 7 ∧ o.x < 18446744073709551616) (hlen : ops.length ≤ 1048576) (hcut : cut < 65536) :
    Calls Try.prog 3 #[sv, .int .u16 cut] w fun e w' => e = .returned (.bool true) ∧ Below w.heap.size w w' := by
  have HS := hide hs
  have Hop := hide hop
  obtain ⟨ao, cap, rfl, h1, h2, h2', h3, h4⟩ := hs
  clear h3 h4 hop
  go_enter Try.func3, Try.ntmps3
  go_wp2_with fail
  refine (wu16_any w.heap.size (.slice none 0 0) [] 258 _ (WrAt.new w) (by omega) (by simp)).mono ?_
  rintro e w1 ⟨rfl, v1, hw1, k1⟩
  have HW1 := hide hw1
  have HK1 := hide (((Kept.refl [] w).alloc _).trans k1.kept (by simp [Value.ownBlock]))
  have HO1 := hide (k1.fresh (B := w.heap.size) (by simp [Value.ownBlock]) (by simp))
  clear hw1 k1
  rw [show [] ++ wide 258 2 = [1, 2] from by decide] at HW1
  go_wp2_with fail
  refine (wbytes_any w.heap.size v1 _ _ (unhide HW1) (by simp)).mono ?_
  rintro e w2 ⟨rfl, k2, h2b⟩
  have c0 : w2.cell? ⟨w1.heap.size, 0, none⟩ = some (.int .u8 1) := by rw [cell_of_row _ _ _ _ _ _ h2b]; rfl
  have c1 : w2.cell? ⟨w1.heap.size, 1, none⟩ = some (.int .u8 2) := by rw [cell_of_row _ _ _ _ _ _ h2b]; rfl
  have HW2 := hide ((unhide HW1).kept k2 (by simp) (by simp))
  have HK2 := hide ((unhide HK1).trans k2 (by simp))
  clear k2 h2b HW1 HK1
  go_wp2_with fail
  go_loopw [7] (fun t7 wr => ∃ (k : Nat) (v : Value) (bs : List Nat), k ≤ ops.length ∧ t7 = .int .i64 k ∧ Hid (bs = wide 258 2 ++ scriptB (ops.take k)) ∧ Hid (WrAt wr w.heap.size v bs) ∧ Hid (Kept [] w wr) ∧ Hid (∀ g, v.ownBlock = some g → w.heap.size ≤ g)) (fun i _ => ops.length - (intOf i).toNat)
  case atStart => exact ⟨0, _, [1, 2], Nat.zero_le _, rfl, hide (by simp [scriptB]; decide), HW2, HK2, HO1⟩
  case round =>
    obtain ⟨k, v, bs, hk, rfl, Hbs, HW, HK, HO⟩ := hrel
    have hbl : bs.length ≤ 4194306 := by
      rw [unhide Hbs]
      have h5 : (scriptB (ops.take k)).length ≤ (scriptB ops).length := by
        conv => rhs; rw [← List.take_append_drop k ops, scriptB_append]
        simp
      simp [wide_len]; omega
    by_cases hlt : k < ops.length
    · have hko : ops[k]? = some ops[k] := List.getElem?_eq_getElem hlt
      have hg := (unhide HS).get (unhide HK) k _ hko
      have hm := unhide Hop _ (List.getElem_mem hlt)
      have Hsucc := hide (scriptB_take_succ hko)
      generalize ops[k] = o at hg hm Hsucc
      obtain ⟨bo, off, ao2, n2, c2, kr, he, hpv, hkk, d0, d1, d2, a1, hbo, hrd⟩ := hg
      cases he
      obtain ⟨ok, ox, on, opv, op⟩ := o
      simp only at hpv hkk d1 a1 hrd hm Hsucc
      subst hpv hkk
      have a1' : (ox : Int) ≤ 18446744073709551615 := by omega
      have hkl : (k : Int) < (ops.length : Int) := by omega
      have HRd := hide hrd
      clear hrd hko
      go_wp2_with fail
      refine (tlay_any w.heap.size v bs kr ox _ op _ (unhide HW) (by exact fun w' kw => (unhide HRd).old ((unhide HK).wr kw (Nat.le_refl _) (unhide HO)) (by simp)) a1 (by omega)).mono ?_
      rintro e w5 ⟨rfl, v5, h5, k5⟩
      have Hbs5 := hide (by rw [unhide Hbs, unhide Hsucc, List.append_assoc] : bs ++ layB (kk kr) ox op = wide 258 2 ++ scriptB (ops.take (k + 1)))
      have HW5 := hide h5
      have HK5 := hide ((unhide HK).wr k5.kept (Nat.le_refl _) (unhide HO))
      have HO5 := hide (k5.fresh (unhide HO) (unhide HK).size)
      clear h5 k5
      go_wp2
      go_roundw
      case rel => exact ⟨k + 1, v5, _, by omega, by go_num, Hbs5, HW5, HK5, HO5⟩
      case measure => simp [intOf]; omega
    · have hlt' : ¬ (k : Int) < (ops.length : Int) := by omega
      have hkn : k = ops.length := by omega
      subst hkn
      rw [List.take_length] at Hbs
      obtain ⟨P, hPe⟩ : ∃ P, P = bs := ⟨_, rfl⟩
      subst hPe
      have HBy := hide (unhide HW).byte
      have HPl := hide (by rw [unhide Hbs]; simp [wide_len] : P.length = 2 + (scriptB ops).length)
      have hP2 : 2 ≤ P.length := by have := unhide HPl; omega
      have hPb : P.length ≤ 4194306 := by have := unhide HPl; omega
      go_wp2_with fail
      refine (wbytes_any w.heap.size v P _ (unhide HW) (by omega)).mono ?_
      rintro e w6 ⟨rfl, k6, h6⟩
      have HF6 := hide (rd_fresh h6 (unhide HBy) (by omega))
      have HW6 := hide ((unhide HW).kept k6 (by simp) (by simp))
      have HK6 := hide ((unhide HK).trans k6 (by simp))
      have hg6 : wr.heap.size < w6.heap.size := lt_of_block h6
      clear k6 h6
      have hwg : w.heap.size ≤ wr.heap.size := (unhide HK).size
      go_wp2_with fail
      refine (wlen_any w.heap.size v P _ (unhide HW6)).mono ?_
      rintro e w7 ⟨rfl, hw7⟩
      subst w7
      go_wp2_with fail
      refine (newReader_any _ P _ (unhide HF6)).mono ?_
      rintro e w7 ⟨b, gv, rfl, hb, hr7, hg7, k7⟩
      have HR7 := hide hr7
      have HK7 := hide ((unhide HK6).trans k7 (by simp))
      have HF7 := hide ((unhide HF6).kept k7 (by simp))
      have hbw : b < w7.heap.size := hr7.lt
      clear hr7 hg7 k7 HW HK HO HW6 HK6 HF6
      go_wp2_with fail
      refine (ru16_any b gv P 0 0 _ (unhide HR7)).mono ?_
      rintro e w8 ⟨rfl, hr8, k8⟩
      have hN0 : rNum P 0 0 2 = (258, 2, 0) := rNum_back (r := scriptB ops) (by rw [List.drop_zero]; exact unhide Hbs) (by omega) (by decide)
      rw [hN0] at hr8 ⊢
      simp only at hr8 ⊢
      rw [show (((258 : Nat) % 65536 : Nat) : Int) = (258 : Int) from rfl]
      have HR8 := hide hr8
      have HK8 := hide ((unhide HK7).trans k8 (by simp; omega))
      have HF8 := hide ((unhide HF7).kept k8 (by intro x hx; simp [blk] at hx; subst hx; simp; omega))
      have HN0 := hide hN0
      clear hr8 k8 hN0
      go_wp2_with fail
      go_loopw [10] (fun t10 wq => ∃ (k : Nat), k ≤ ops.length ∧ t10 = .int .i64 k ∧ Hid (ReAt wq b gv P (2 + (scriptB (ops.take k)).length) 0) ∧ Hid (Rd wq (.slice (some ⟨wr.heap.size, 0, none⟩) P.length P.length) P) ∧ Hid (Kept [] w wq)) (fun i _ => ops.length - (intOf i).toNat)
      case atStart => exact ⟨0, Nat.zero_le _, rfl, HR8, HF8, HK8⟩
      case round =>
        obtain ⟨k, hk, rfl, HR, HF, HK⟩ := hrel
        by_cases hlt : k < ops.length
        · have hko : ops[k]? = some ops[k] := List.getElem?_eq_getElem hlt
          have hg := (unhide HS).get (unhide HK) k _ hko
          have hm := unhide Hop _ (List.getElem_mem hlt)
          obtain ⟨sb1, sb2, sb3⟩ := step_back (unhide Hbs) hko
          generalize ops[k] = o at hg hm sb1 sb2 sb3
          obtain ⟨bo, off, ao2, n2, c2, kr, he, hpv, hkk, d0, d1, d2, a1, hbo, hrd⟩ := hg
          cases he
          obtain ⟨ok, ox, on, opv, op⟩ := o
          simp only at hpv hkk d1 a1 hrd hm sb1 sb2 sb3
          subst hpv hkk
          have HT := hide (rTake_back (n := (op.length : Int)) sb1 sb2 ⟨hm.2.1, hm.2.2.1⟩ a1 (by omega) (fun _ => rfl) (fun _ => Int.le_refl _))
          have a1' : (ox : Int) ≤ 18446744073709551615 := by omega
          have hkl : (k : Int) < (ops.length : Int) := by omega
          have HRd := hide hrd
          have Hs3 := hide sb3
          clear hrd hko sb1 sb2 sb3
          go_wp2_with fail
          refine (took_any b gv P _ 0 kr ox _ op _ (unhide HR) (by exact fun w' kw => (unhide HRd).old ((unhide HK).trans kw (by simp; omega)) (by simp)) a1 (unhide HT)).mono ?_
          rintro e w9 ⟨bb, rfl, hbb, hr9, k9⟩
          have hbt : bb = true := hbb rfl rfl
          subst hbt
          rw [unhide Hs3] at hr9
          have HR9 := hide hr9
          have HK9 := hide ((unhide HK).trans k9 (by simp; omega))
          have HF9 := hide ((unhide HF).kept k9 (by intro x hx; simp [blk] at hx; subst hx; simp; omega))
          clear hbb hr9 k9
          go_wp2
          go_roundw
          case rel => exact ⟨k + 1, by omega, by go_num, HR9, HF9, HK9⟩
          case measure => simp [intOf]; omega
        · have hlt' : ¬ (k : Int) < (ops.length : Int) := by omega
          have hkn : k = ops.length := by omega
          subst hkn
          rw [List.take_length, ← unhide HPl] at HR
          have hD : doneE P P.length 0 = 0 := by simp [doneE]
          go_wp2_with fail
          refine (rdone_any b gv P P.length 0 _ (unhide HR)).mono ?_
          rintro e w9 ⟨rfl, m9, hw9⟩
          rw [hD]
          have HR9 := hide (by rw [hw9]; exact (unhide HR).drewN m9 : ReAt w9 b gv P P.length 0)
          have HF9 := hide (by rw [hw9]; exact (unhide HF).drewN m9 : Rd w9 _ P)
          have HK9 := hide (by rw [hw9]; exact (unhide HK).drewN m9 : Kept [] w w9)
          have hc0 : 0 ≤ (cut : Int) % (P.length : Int) := Int.emod_nonneg _ (by omega)
          have hc1 : (cut : Int) % (P.length : Int) < (P.length : Int) := Int.emod_lt_of_pos _ (by omega)
          have hc2 : (cut : Int) % (P.length : Int) ≤ (P.length : Int) := by omega
          clear hw9 m9 hD
          go_wp2_with fail
          refine (rat_any b gv P P.length 0 _ (unhide HR9)).mono ?_
          rintro e w10 ⟨rfl, hw10⟩
          subst w10
          go_wp2_with fail
          have hn : cut % P.length < P.length := Nat.mod_lt _ (by omega)
          obtain ⟨n, hne⟩ : ∃ n, cut % P.length = n := ⟨_, rfl⟩
          rw [hne] at hn ⊢
          refine (newReader_any _ (P.take n) _ (by exact (unhide HF9).take (by omega))).mono ?_
          rintro e w11 ⟨b2, gv2, rfl, hb2, hr11, hg11, k11⟩
          have HR11 := hide hr11
          have HK11 := hide ((unhide HK9).trans k11 (by simp))
          have hw9 : w.heap.size ≤ w9.heap.size := (unhide HK9).size
          clear hr11 hg11 k11 HR HF HK HR9 HF9 HK9
          go_wp2_with fail
          refine (ru16_any b2 gv2 (P.take n) 0 0 _ (unhide HR11)).mono ?_
          rintro e w12 ⟨rfl, hr12, k12⟩
          obtain ⟨z0, i0, f0, hN⟩ : ∃ z i f, rNum (P.take n) 0 0 2 = (z, i, f) := ⟨_, _, _, rfl⟩
          have HI := hide (by
            intro hf
            by_cases h2n : 2 ≤ n
            · have hd : (P.take n).drop 0 = wide 258 2 ++ (scriptB ops).take (n - 2) := by
                rw [List.drop_zero, unhide Hbs, List.take_append, List.take_of_length_le (by rw [wide_len]; exact h2n), wide_len]
              have h3 := rNum_back hd (by omega) (by decide)
              rw [h3] at hN
              simp only [Prod.mk.injEq] at hN
              simp [scriptB]
              omega
            · have h3 := rNum_short (P := P.take n) (i := 0) (n := 2) (by simp; omega)
              rw [h3] at hN
              simp only [Prod.mk.injEq] at hN
              omega : f0 = 0 → i0 = 2 + (scriptB (ops.take 0)).length ∧ i0 ≤ n)
          rw [hN] at hr12 ⊢
          simp only at hr12 ⊢
          obtain ⟨z1, hz1⟩ : ∃ z1, z0 % 65536 = z1 := ⟨_, rfl⟩
          rw [hz1]
          have HR12 := hide hr12
          have HK12 := hide ((unhide HK11).trans k12 (by simp; omega))
          clear hr12 k12 hN hz1
          go_wp2_with fail
          go_loopw [13] (fun t13 wq => ∃ (k i f : Nat), k ≤ ops.length ∧ t13 = .int .i64 k ∧ Hid (ReAt wq b2 gv2 (P.take n) i f) ∧ Hid (f = 0 → i = 2 + (scriptB (ops.take k)).length ∧ i ≤ n) ∧ Hid (Kept [] w wq)) (fun i _ => ops.length - (intOf i).toNat)
          case atStart => exact ⟨0, _, _, Nat.zero_le _, rfl, HR12, HI, HK12⟩
          case round =>
            obtain ⟨k, i, f, hk, rfl, HR, HJ, HK⟩ := hrel
            by_cases hlt : k < ops.length
            · have hko : ops[k]? = some ops[k] := List.getElem?_eq_getElem hlt
              have hg := (unhide HS).get (unhide HK) k _ hko
              have hm := unhide Hop _ (List.getElem_mem hlt)
              obtain ⟨z, q, j, g, hT⟩ : ∃ z q j g, rTake (P.take n) i f (ops[k]).k (ops[k]).p.length = (z, q, j, g) := ⟨_, _, _, _, rfl⟩
              have HJ2 := hide (step_cut (unhide Hbs) hko (by omega) ⟨hm.2.1, hm.2.2.1⟩ hm.2.2.2 (by omega) hT (unhide HJ))
              generalize ops[k] = o at hg hm hT
              obtain ⟨bo, off, ao2, n2, c2, kr, he, hpv, hkk, d0, d1, d2, a1, hbo, hrd⟩ := hg
              cases he
              obtain ⟨ok, ox, on, opv, op⟩ := o
              simp only at hpv hkk d1 a1 hrd hm hT
              subst hpv hkk
              have HT := hide hT
              have a1' : (ox : Int) ≤ 18446744073709551615 := by omega
              have hkl : (k : Int) < (ops.length : Int) := by omega
              have HRd := hide hrd
              clear hrd hko hT
              go_wp2_with fail
              refine (took_any b2 gv2 (P.take n) _ f kr ox _ op _ (unhide HR) (by exact fun w' kw => (unhide HRd).old ((unhide HK).trans kw (by simp; omega)) (by simp)) a1 (unhide HT)).mono ?_
              rintro e w13 ⟨bb, rfl, hbb, hr13, k13⟩
              have HR13 := hide hr13
              have HK13 := hide ((unhide HK).trans k13 (by simp; omega))
              clear hbb hr13 k13
              go_wp2
              go_roundw
              case rel => exact ⟨k + 1, j, g, by omega, by go_num, HR13, HJ2, HK13⟩
              case measure => simp [intOf]; omega
            · have hlt' : ¬ (k : Int) < (ops.length : Int) := by omega
              have hkn : k = ops.length := by omega
              subst hkn
              have hf0 : f ≠ 0 := by
                intro hf
                have h7 := unhide HJ hf
                rw [List.take_length] at h7
                have h8 := unhide HPl
                omega
              have tf : ((f : Int) != 0) = true := by rw [bne_iff_ne]; omega
              have tf2 : ((f : Int) == 0) = false := by rw [beq_eq_false_iff_ne]; omega
              go_wp2_with fail
              refine (rerr_any b2 gv2 (P.take n) i f _ (unhide HR)).mono ?_
              rintro e w13 ⟨rfl, hw13⟩
              subst w13
              go_wp2
              go_ret
              exact ⟨by simp, (unhide HK).below (Nat.le_refl _) (by simp)⟩
end Go.Proofs.Ytdnacefdihipnad
