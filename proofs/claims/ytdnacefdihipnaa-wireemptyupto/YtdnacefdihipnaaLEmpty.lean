import Derived.Test.YtdnacefdihipnaaNil
import Derived.Test.YtdnacefdihipnaaLTakes
namespace Go.Proofs.Ytdnacefdihipnaa
open Go.RowKit
set_option linter.unusedVariables false
set_option linter.unusedSimpArgs false

/-- A variable of four cells, as a walk wants it. -/
theorem four {w : World} {b : Nat} {v0 v1 v2 v3 : Value} {t : TypeId} {fr : Nat × Nat} (h : w.heap[b]? = some (.cells #[v0, v1, v2, v3] t fr)) :
    w.cell? ⟨b, 0, none⟩ = some v0 ∧ w.cell? ⟨b, 1, none⟩ = some v1 ∧ w.cell? ⟨b, 2, none⟩ = some v2 ∧ w.cell? ⟨b, 3, none⟩ = some v3 := by
  refine ⟨?_, ?_, ?_, ?_⟩ <;> (rw [cell_of_row _ _ _ _ _ _ h]; rfl)

set_option maxRecDepth 100000 in
set_option maxHeartbeats 8000000 in
theorem wireEmpty_walk (sv : Value) (ops : List OpD) (w : World) (hs : SRd w sv ops) (hl : (scriptB ops).length ≤ 4194304) (hop : ∀ o ∈ ops, o.p.length ≤ 1048576) (hlen : ops.length ≤ 1048576) :
    Calls Try.prog 5 #[sv] w fun e w' => e = .returned (.bool true) ∧ Below w.heap.size w w' := by
  have HS := hide hs
  have hbn := fun (o : OpD) (ho : o ∈ ops) => (by obtain ⟨_, _, _, _, _, _, h3, _⟩ := id hs; exact (h3 o ho).2.2.2.1 : -9223372036854775808 ≤ o.n)
  have hbn2 := fun (o : OpD) (ho : o ∈ ops) => (by obtain ⟨_, _, _, _, _, _, h3, _⟩ := id hs; exact (h3 o ho).2.2.2.2.1 : o.n ≤ 9223372036854775807)
  obtain ⟨ao, cap, rfl, h1, h2, h2', h3, h4⟩ := hs
  have Hbn := hide hbn
  have Hbn2 := hide hbn2
  clear h3 h4 hop hbn hbn2
  go_enter Try.func5, Try.ntmps5
  go_wp2_with fail
  refine (awake_any _).mono ?_
  rintro e w1 ⟨rfl, k1⟩
  have HK1 := hide k1
  clear k1
  have HR1 : Hid (ReAt (((w1.alloc (.cells #[.slice none 0 0, .int .i64 0, .int .i64 0] 51)).alloc (.cells #[.slice none 0 0] 26)).alloc (.cells #[.slice none 0 0, .int .i64 0, .int .i64 0] 42)) w1.heap.size (.slice none 0 0) [] 0 0) :=
    hide (ReAt.kept (⟨heap_alloc_new w1 _, Rd.nil _, by simp, by simp [blk]⟩ : ReAt (w1.alloc (.cells #[.slice none 0 0, .int .i64 0, .int .i64 0] 51)) w1.heap.size (.slice none 0 0) [] 0 0) (((Kept.refl [] _).alloc _).alloc _) (by simp) (by simp))
  have HW1 : Hid (WrAt (((w1.alloc (.cells #[.slice none 0 0, .int .i64 0, .int .i64 0] 51)).alloc (.cells #[.slice none 0 0] 26)).alloc (.cells #[.slice none 0 0, .int .i64 0, .int .i64 0] 42)) (w1.heap.size + 1) (.slice none 0 0) []) :=
    hide (by have h := (WrAt.new (w1.alloc (.cells #[.slice none 0 0, .int .i64 0, .int .i64 0] 51))).alloc (.cells #[.slice none 0 0, .int .i64 0, .int .i64 0] 42); simpa using h)
  have HC1 : Hid ((((w1.alloc (.cells #[.slice none 0 0, .int .i64 0, .int .i64 0] 51)).alloc (.cells #[.slice none 0 0] 26)).alloc (.cells #[.slice none 0 0, .int .i64 0, .int .i64 0] 42)).heap[w1.heap.size + 1 + 1]? = some (.cells #[.slice none 0 0, .int .i64 0, .int .i64 0] 42 (0, 0))) :=
    hide (by have h := heap_alloc_new ((w1.alloc (.cells #[.slice none 0 0, .int .i64 0, .int .i64 0] 51)).alloc (.cells #[.slice none 0 0] 26)) (.cells #[.slice none 0 0, .int .i64 0, .int .i64 0] 42); simpa using h)
  have HK2 := hide ((((unhide HK1).alloc (.cells #[.slice none 0 0, .int .i64 0, .int .i64 0] 51)).alloc (.cells #[.slice none 0 0] 26)).alloc (.cells #[.slice none 0 0, .int .i64 0, .int .i64 0] 42))
  have hw1 : w.heap.size ≤ w1.heap.size := (unhide HK1).size
  clear HK1
  go_wp2_with fail
  refine (rdone_any w1.heap.size (.slice none 0 0) [] 0 0 _ (unhide HR1)).mono ?_
  rintro e w2 ⟨rfl, m2, hw2⟩
  have HR2 := hide (by rw [hw2]; exact (unhide HR1).drewN m2 : ReAt w2 w1.heap.size (.slice none 0 0) [] 0 0)
  have HW2 := hide (by rw [hw2]; exact (unhide HW1).drewN m2 : WrAt w2 (w1.heap.size + 1) (.slice none 0 0) [])
  have HC2 := hide (by rw [hw2]; exact unhide HC1 : w2.heap[w1.heap.size + 1 + 1]? = some (.cells #[.slice none 0 0, .int .i64 0, .int .i64 0] 42 (0, 0)))
  have HK3 := hide (by rw [hw2]; exact (unhide HK2).drewN m2 : Kept [] w w2)
  rw [show doneE [] 0 0 = 0 from rfl]
  clear hw2 m2
  go_wp2_with fail
  refine (rat_any w1.heap.size (.slice none 0 0) [] 0 0 _ (unhide HR2)).mono ?_
  rintro e w3 ⟨rfl, hw3⟩
  subst w3
  go_wp2_with fail
  refine (wlen_any (w1.heap.size + 1) (.slice none 0 0) [] _ (unhide HW2)).mono ?_
  rintro e w3 ⟨rfl, hw3⟩
  subst w3
  go_wp2_with fail
  refine (wbytes_any (w1.heap.size + 1) (.slice none 0 0) [] _ (unhide HW2) (by simp)).mono ?_
  rintro e w4 ⟨rfl, k4, h4⟩
  have HR4 := hide ((unhide HR2).kept k4 (by simp) (by simp))
  have HC4 := hide (k4.heap (unhide HC2) (by simp))
  have HK4 := hide ((unhide HK3).trans k4 (by simp))
  clear k4 h4
  go_wp2_with fail
  go_loopw [9, 10, 11, 12, 13, 14, 38] (fun t9 t10 t11 t12 t13 t14 t38 wr => ∃ (k i f : Nat), k ≤ ops.length ∧ t38 = .int .i64 k ∧ Hid (ReAt wr w1.heap.size (.slice none 0 0) [] i f) ∧ Hid (wr.heap[w1.heap.size + 1 + 1]? = some (.cells #[.slice none 0 0, .int .i64 i, .int .i64 f] 42 (0, 0))) ∧ Hid (Kept [] w wr)) (fun _ _ _ _ _ _ i _ => ops.length - (intOf i).toNat)
  case atStart => exact ⟨0, 0, 0, Nat.zero_le _, rfl, HR4, HC4, HK4⟩
  case round =>
    obtain ⟨k, i, f, hk, rfl, HR, HC, HK⟩ := hrel
    by_cases hlt : k < ops.length
    · have hko : ops[k]? = some ops[k] := List.getElem?_eq_getElem hlt
      have hg := (unhide HS).get (unhide HK) k _ hko
      have hm1 := unhide Hbn _ (List.getElem_mem hlt)
      have hm2 := unhide Hbn2 _ (List.getElem_mem hlt)
      generalize ops[k] = o at hg hm1 hm2
      obtain ⟨bo, off, ao2, n2, c2, he, hpv, d0, d1, d2, d3, a1, hbl, hrd⟩ := hg
      cases he
      obtain ⟨ok, ox, on, opv, op⟩ := o
      simp only at hpv d0 d1 d2 a1 hrd hm1 hm2
      subst hpv
      have a1' : (ox : Int) ≤ 18446744073709551615 := by omega
      have hkl : (k : Int) < (ops.length : Int) := by omega
      have hn2 : n2 ≤ 140737488355328 := by obtain ⟨_, _, _, e, _, _, ⟨_, h⟩, _⟩ := hrd; cases e; exact h
      clear hrd hko
      obtain ⟨z, qq, j, g, hT⟩ : ∃ z q j e, rTake [] i f ok on = (z, q, j, e) := ⟨_, _, _, _, rfl⟩
      have HT := hide hT
      clear hT
      have hbwr : w1.heap.size < wr.heap.size := (unhide HR).lt
      have hcwr : w1.heap.size + 1 + 1 < wr.heap.size := lt_of_block (unhide HC)
      have hiP : i ≤ ([] : List Nat).length := (unhide HR).le
      go_wp2_with fail
      refine (lay_nil ok ox on _ _ _ _ (by omega) hn2).mono ?_
      rintro e w5 ⟨rfl, k5⟩
      have HL5 := hide k5
      clear k5
      obtain ⟨e0, e1, e2, e3⟩ := four ((unhide HL5).heap (heap_alloc_new wr _) (by simp))
      go_wp2_with fail
      refine (take_nil ok ox on _ _).mono ?_
      rintro e w6 ⟨rfl, k6⟩
      have HL6 := hide ((unhide HL5).trans k6 (by simp))
      clear k6 HL5 e0 e1 e2 e3
      go_wp2_with fail
      refine (wlen_nil _).mono ?_
      rintro e w7 ⟨rfl, k7⟩
      have HL7 := hide ((unhide HL6).trans k7 (by simp))
      clear k7 HL6
      go_wp2_with fail
      refine (wbytes_nil _).mono ?_
      rintro e w8 ⟨rfl, k8⟩
      have HL8 := hide ((unhide HL7).trans k8 (by simp))
      clear k8 HL7
      go_wp2_with fail
      refine (rat_nil _).mono ?_
      rintro e w9 ⟨rfl, k9⟩
      have HL9 := hide ((unhide HL8).trans k9 (by simp))
      clear k9 HL8
      go_wp2_with fail
      refine (rerr_nil _).mono ?_
      rintro e w10 ⟨rfl, k10⟩
      have HL10 := hide ((unhide HL9).trans k10 (by simp))
      clear k10 HL9
      go_wp2_with fail
      refine (rdone_nil _).mono ?_
      rintro e w11 ⟨rfl, k11⟩
      have HL11 := hide ((unhide HL10).trans k11 (by simp))
      clear k11 HL10
      have hrow := (unhide HL11).heap (heap_alloc_new wr _) (by simp)
      obtain ⟨e0, e1, e2, e3⟩ := four hrow
      have Hrow := hide hrow
      have HR11 := hide ((unhide HR).kept (((Kept.refl [] wr).alloc _).trans (unhide HL11) (by simp)) (by simp) (by simp))
      have HC11 := hide ((((Kept.refl [] wr).alloc _).trans (unhide HL11) (by simp)).heap (unhide HC) (by simp))
      have HK11 := hide (((unhide HK).alloc _).trans (unhide HL11) (by simp))
      have hz11 : wr.heap.size < w11.heap.size := lt_of_block hrow
      clear hrow HL11
      go_wp2_with fail
      refine (take_any w1.heap.size (.slice none 0 0) [] i f ok ox on _ _ (unhide HR11) ⟨hm1, hm2⟩).mono ?_
      rintro e w12 ⟨rv, rfl, hr6, hr62, k6, hb6⟩
      rw [unhide HT] at hr6 hr62 ⊢
      simp only at hr6 hr62
      clear e0 e1 e2 e3
      obtain ⟨e0, e1, e2, e3⟩ := four (k6.heap (unhide Hrow) (by simp; omega))
      have hc7 := k6.heap (unhide HC11) (by simp; omega)
      obtain ⟨⟨s0, s1, s2⟩, _⟩ := three hc7
      have HK12 := hide ((unhide HK11).trans k6 (by simpa using hw1))
      have HR12 := hide hr62
      have HV12 := hide hr6
      have HC12 := hide hc7
      have hz12 : w11.heap.size ≤ w12.heap.size := k6.size
      have HB12 := hide (fun x (hx : x ∈ blk rv) => (by have := hb6 x hx; omega : w1.heap.size + 1 + 1 < x))
      clear hr6 hr62 k6 hb6 hc7
      go_wp2_with fail
      refine (taken_any none 0 [] i f ok ox on _ _ (Rd.nil _) hiP ⟨hm1, hm2⟩).mono ?_
      rintro e w13 ⟨rv2, rfl, hr7, k7, hb7⟩
      rw [unhide HT] at hr7 ⊢
      simp only [List.length_nil] at hr7 ⊢
      have HC13 := hide (k7.heap (unhide HC12) (by simp))
      have hz13 : w12.heap.size ≤ w13.heap.size := k7.size
      have HV13 := hide hr7
      have HU13 := hide ((unhide HV12).kept k7 (by simp))
      have HR13 := hide ((unhide HR12).kept k7 (by simp) (by simp))
      have HK13 := hide ((unhide HK12).trans k7 (by simp))
      have HB13 := hide (fun x (hx : x ∈ blk rv2) => (by have := hb7 x hx; omega : w1.heap.size + 1 + 1 < x))
      clear k7 hb7 hr7 e0 e1 e2 e3 s0 s1 s2
      obtain ⟨⟨t0, t1, t2⟩, f0, f1, f2⟩ := three (unhide HC13)
      have hcw13 : w1.heap.size + 1 + 1 < w13.heap.size := by omega
      have HC14 := hide (row3 (.slice none 0 0) (.int .i64 j) (.int .i64 g) (unhide HC13))
      have k8 := ((((Kept.refl [w1.heap.size + 1 + 1] w13).setCell (p := ⟨w1.heap.size + 1 + 1, 0, none⟩) (by simp) (.slice none 0 0)).setCell (p := ⟨w1.heap.size + 1 + 1, 1, none⟩) (by simp) (.int .i64 j)).setCell (p := ⟨w1.heap.size + 1 + 1, 2, none⟩) (by simp) (.int .i64 g)).alloc (.cells #[.slice none 0 0, .int .i64 j, .int .i64 g] 42)
      have HCC := hide (((Kept.refl [] _).alloc (.cells #[.slice none 0 0, .int .i64 j, .int .i64 g] 42)).heap (unhide HC14) (by simp))
      have HU14 := hide ((unhide HU13).kept k8 (by intro x hx; have := unhide HB12 x hx; simp; omega))
      have HV14 := hide ((unhide HV13).kept k8 (by intro x hx; have := unhide HB13 x hx; simp; omega))
      have HR14 := hide ((unhide HR13).kept k8 (by simp; omega) (by simp [blk]))
      have HK14 := hide ((unhide HK13).trans k8 (by simp; omega))
      clear k8 HC14
      go_wp2_with fail
      refine (same_any _ _ qq qq _ (unhide HU14) (unhide HV14)).mono ?_
      rintro e w15 ⟨rfl, m9, hw9⟩
      have HR15 := hide (by rw [hw9]; exact (unhide HR14).drewN m9 : ReAt w15 w1.heap.size (.slice none 0 0) [] j g)
      have HK15 := hide (by rw [hw9]; exact (unhide HK14).drewN m9 : Kept [] w w15)
      have HC15 := hide (by rw [hw9]; exact unhide HCC : w15.heap[w1.heap.size + 1 + 1]? = some (.cells #[.slice none 0 0, .int .i64 j, .int .i64 g] 42 (0, 0)))
      obtain ⟨⟨q0, q1, q2⟩, _⟩ := three (unhide HC15)
      clear hw9 m9 t0 t1 t2 f0 f1 f2
      go_wp2_with fail
      refine (tells_any w1.heap.size (.slice none 0 0) none 0 [] j g _ (unhide HR15)).mono ?_
      rintro e w16 ⟨rfl, k10⟩
      have HR16 := hide ((unhide HR15).kept k10 (by simp) (by simp))
      have HK16 := hide ((unhide HK15).trans k10 (by simp))
      have HC16 := hide (k10.heap (unhide HC15) (by simp))
      clear k10
      go_wp2
      go_roundw
      case rel => exact ⟨k + 1, j, g, by omega, by go_num, HR16, HC16, HK16⟩
      case measure => simp [intOf]; omega
    · have hlt' : ¬ (k : Int) < (ops.length : Int) := by omega
      go_wp2
      go_ret
      exact ⟨by simp, (unhide HK).below (Nat.le_refl _) (by simp)⟩
end Go.Proofs.Ytdnacefdihipnaa
