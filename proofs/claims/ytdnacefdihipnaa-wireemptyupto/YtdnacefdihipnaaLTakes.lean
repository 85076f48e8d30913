import Derived.Test.YtdnacefdihipnaaTells
import Derived.Test.YtdnacefdihipnaaLOneWay
namespace Go.Proofs.Ytdnacefdihipnaa
open Go.RowKit
set_option linter.unusedVariables false
set_option linter.unusedSimpArgs false

/-- A variable of three cells, written over. -/
theorem row3 {w : World} {b : Nat} {x0 x1 x2 : Value} {t : TypeId} (y0 y1 y2 : Value) (h : w.heap[b]? = some (.cells #[x0, x1, x2] t (0, 0))) :
    (((w.setCell ⟨b, 0, none⟩ y0).setCell ⟨b, 1, none⟩ y1).setCell ⟨b, 2, none⟩ y2).heap[b]? = some (.cells #[y0, y1, y2] t (0, 0)) := by
  have h1 : (w.setCell ⟨b, 0, none⟩ y0).heap[b]? = some (.cells #[y0, x1, x2] t (0, 0)) := by rw [heap_setCell_same w b 0 _ t _ h]; rfl
  have h2 : ((w.setCell ⟨b, 0, none⟩ y0).setCell ⟨b, 1, none⟩ y1).heap[b]? = some (.cells #[y0, y1, x2] t (0, 0)) := by rw [heap_setCell_same _ b 1 _ t _ h1]; rfl
  rw [heap_setCell_same _ b 2 _ t _ h2]; rfl

set_option maxRecDepth 100000 in
set_option maxHeartbeats 8000000 in
theorem wireTakes_walk (pv : Value) (P : List Nat) (sv : Value) (ops : List OpD) (w : World) (hp : Rd w pv P) (hpl : P.length ≤ 1048576) (hs : SRd w sv ops) (hl : (scriptB ops).length ≤ 4194304) (hop : ∀ o ∈ ops, o.p.length ≤ 1048576) (hlen : ops.length ≤ 1048576) :
    Calls Try.prog 4 #[pv, sv] w fun e w' => e = .returned (.bool true) ∧ Below w.heap.size w w' := by
  have HS := hide hs
  have HPr := hide hp
  have hby := hp.byte
  have hbn := fun (o : OpD) (ho : o ∈ ops) => (by obtain ⟨_, _, _, _, _, _, h3, _⟩ := id hs; exact (h3 o ho).2.2.2.1 : -9223372036854775808 ≤ o.n)
  have hbn2 := fun (o : OpD) (ho : o ∈ ops) => (by obtain ⟨_, _, _, _, _, _, h3, _⟩ := id hs; exact (h3 o ho).2.2.2.2.1 : o.n ≤ 9223372036854775807)
  obtain ⟨ao, cap, rfl, h1, h2, h2', h3, h4⟩ := hs
  have Hby := hide hby
  have Hbn := hide hbn
  have Hbn2 := hide hbn2
  clear h3 h4 hop hby hbn hbn2 hp
  go_enter Try.func4, Try.ntmps4
  go_wp2_with fail
  refine (awake_any _).mono ?_
  rintro e w1 ⟨rfl, k1⟩
  have HK1 := hide k1
  clear k1
  go_wp2_with fail
  refine (twin_any _ P _ (by exact (unhide HPr).old (unhide HK1) (by simp))).mono ?_
  rintro e w2 ⟨rfl, k2, hz2⟩
  have HG := hide hz2
  have HK2 := hide ((unhide HK1).trans k2 (by simp))
  clear hz2 k2
  go_wp2_with fail
  refine (newReader_any _ P _ (by exact rd_fresh (unhide HG) (unhide Hby) (by omega))).mono ?_
  rintro e w3 ⟨b, gv, rfl, hb, hr3, hg3, k3⟩
  have HR3 := hide hr3
  have HK3 := hide ((unhide HK2).trans k3 (by simp))
  have hb3 : w.heap.size ≤ b := by have := (unhide HK2).size; omega
  have hbw : b < w3.heap.size := hr3.lt
  have Hgv := hide (fun x (hx : x ∈ blk gv) => (hg3 x hx).2 : ∀ x ∈ blk gv, x < w3.heap.size)
  clear hr3 hg3 k3 HG
  go_wp2_with fail
  refine (twin_any _ P _ (by exact (unhide HPr).old (unhide HK3) (by simp))).mono ?_
  rintro e w4 ⟨rfl, k4, hz4⟩
  have hs4 := k4.size
  have HD4 := hide (rd_fresh hz4 (unhide Hby) (by omega))
  have HR4 := hide ((unhide HR3).kept k4 (by simp) (by simp))
  have HK4 := hide ((unhide HK3).trans k4 (by simp))
  have hz : w3.heap.size < w4.heap.size := lt_of_block hz4
  clear k4 hz4
  go_wp2_with fail
  refine (tells_any b gv _ _ P 0 0 _ (by exact (unhide HR4).kept ((Kept.refl [] w4).alloc _) (by simp) (by simp))).mono ?_
  rintro e w5 ⟨rfl, k5⟩
  have HC5 := hide (k5.heap (heap_alloc_new w4 _) (by simp))
  have hs5 := k5.size
  simp at hs5
  have HD5 := hide ((unhide HD4).kept (((Kept.refl [] w4).alloc _).trans k5 (by simp)) (by simp))
  have HR5 := hide ((unhide HR4).kept (((Kept.refl [] w4).alloc _).trans k5 (by simp)) (by simp) (by simp))
  have HK5 := hide ((unhide HK4).trans (((Kept.refl [] w4).alloc _).trans k5 (by simp)) (by simp))
  have hw4 : w.heap.size ≤ w4.heap.size := (unhide HK4).size
  clear k5
  go_wp2_with fail
  go_loopw [8, 9, 10, 11, 12, 13, 32] (fun t8 t9 t10 t11 t12 t13 t32 wr => ∃ (k i f : Nat), k ≤ ops.length ∧ t32 = .int .i64 k ∧ Hid (ReAt wr b gv P i f) ∧ Hid (wr.heap[w4.heap.size]? = some (.cells #[.slice (some ⟨w3.heap.size, 0, none⟩) P.length P.length, .int .i64 i, .int .i64 f] 42 (0, 0))) ∧ Hid (Rd wr (.slice (some ⟨w3.heap.size, 0, none⟩) P.length P.length) P) ∧ Hid (Kept [] w wr)) (fun _ _ _ _ _ _ i _ => ops.length - (intOf i).toNat)
  case atStart => exact ⟨0, 0, 0, Nat.zero_le _, rfl, HR5, HC5, HD5, HK5⟩
  case round =>
    obtain ⟨k, i, f, hk, rfl, HR, HC, HD, HK⟩ := hrel
    by_cases hlt : k < ops.length
    · have hko : ops[k]? = some ops[k] := List.getElem?_eq_getElem hlt
      have hg := (unhide HS).get (unhide HK) k _ hko
      have hm1 := unhide Hbn _ (List.getElem_mem hlt)
      have hm2 := unhide Hbn2 _ (List.getElem_mem hlt)
      generalize ops[k] = o at hg hm1 hm2
      obtain ⟨bo, off, ao2, n2, c2, he, hpv, d0, d1, d2, d3, a1, hbl, hrd⟩ := hg
      cases he
      obtain ⟨ok, ox, on, opv, op⟩ := o
      simp only at hpv d0 d1 d2 a1 hrd hm1 hm2
      subst hpv
      have a1' : (ox : Int) ≤ 18446744073709551615 := by omega
      have hkl : (k : Int) < (ops.length : Int) := by omega
      clear hrd hko
      obtain ⟨z, qq, j, g, hT⟩ : ∃ z q j e, rTake P i f ok on = (z, q, j, e) := ⟨_, _, _, _, rfl⟩
      have HT := hide hT
      clear hT
      have hbwr : b < wr.heap.size := (unhide HR).lt
      have hcwr : w4.heap.size < wr.heap.size := lt_of_block (unhide HC)
      have hiP : i ≤ P.length := (unhide HR).le
      go_wp2_with fail
      refine (take_any b gv _ i f ok ox on _ _ (by exact (unhide HR).kept ((Kept.refl [] wr).alloc _) (by simp) (by simp)) ⟨hm1, hm2⟩).mono ?_
      rintro e w6 ⟨rv, rfl, hr6, hr62, k6, hb6⟩
      rw [unhide HT] at hr6 hr62 ⊢
      simp only at hr6 hr62
      have hc6 := k6.heap (heap_alloc_new wr _) (by simp; omega)
      have e0 : w6.cell? ⟨wr.heap.size, 0, none⟩ = some (.int .i64 ok) := by rw [cell_of_row _ _ _ _ _ _ hc6]; rfl
      have e1 : w6.cell? ⟨wr.heap.size, 1, none⟩ = some (.int .u64 ox) := by rw [cell_of_row _ _ _ _ _ _ hc6]; rfl
      have e2 : w6.cell? ⟨wr.heap.size, 2, none⟩ = some (.int .i64 on) := by rw [cell_of_row _ _ _ _ _ _ hc6]; rfl
      have e3 : w6.cell? ⟨wr.heap.size, 3, none⟩ = some (.slice ao2 n2 c2) := by rw [cell_of_row _ _ _ _ _ _ hc6]; rfl
      have hc7 := (((Kept.refl [] wr).alloc (.cells #[.int .i64 ok, .int .u64 ox, .int .i64 on, .slice ao2 n2 c2] 29)).mono (M := [b]) (by simp)).trans k6 (by simp) |>.heap (unhide HC) (by simp; omega)
      have s0 : w6.cell? ⟨w4.heap.size, 0, none⟩ = some (.slice (some ⟨w3.heap.size, 0, none⟩) P.length P.length) := by rw [cell_of_row _ _ _ _ _ _ hc7]; rfl
      have s1 : w6.cell? ⟨w4.heap.size, 1, none⟩ = some (.int .i64 i) := by rw [cell_of_row _ _ _ _ _ _ hc7]; rfl
      have s2 : w6.cell? ⟨w4.heap.size, 2, none⟩ = some (.int .i64 f) := by rw [cell_of_row _ _ _ _ _ _ hc7]; rfl
      have HD6 := hide ((unhide HD).kept (((Kept.refl [] wr).alloc (.cells #[.int .i64 ok, .int .u64 ox, .int .i64 on, .slice ao2 n2 c2] 29)).mono (M := [b]) (by simp) |>.trans k6 (by simp)) (by intro x hx; simp [blk] at hx; subst hx; simp; omega))
      have HK6 := hide (((unhide HK).alloc _).trans k6 (by simpa using hb3))
      have HR6 := hide hr62
      have HV6 := hide hr6
      have HC6 := hide hc7
      have hz6 : wr.heap.size < w6.heap.size := lt_of_block hc6
      have hj6 : j ≤ P.length := hr62.le
      have HB6 := hide (fun x (hx : x ∈ blk rv) => (by have := hb6 x hx; simp at this; omega : w4.heap.size < x))
      clear hr6 hr62 k6 hb6 hc6 hc7
      go_wp2_with fail
      refine (taken_any _ _ P i f ok ox on _ _ (unhide HD6) hiP ⟨hm1, hm2⟩).mono ?_
      rintro e w7 ⟨rv2, rfl, hr7, k7, hb7⟩
      rw [unhide HT] at hr7 ⊢
      simp only at hr7
      have HC7 := hide (k7.heap (unhide HC6) (by simp))
      have hz7 : w6.heap.size ≤ w7.heap.size := k7.size
      have HV7 := hide hr7
      have HU7 := hide ((unhide HV6).kept k7 (by simp))
      have HR7 := hide ((unhide HR6).kept k7 (by simp) (by simp))
      have HD7 := hide ((unhide HD6).kept k7 (by simp))
      have HK7 := hide ((unhide HK6).trans k7 (by simp))
      obtain ⟨⟨t0, t1, t2⟩, f0, f1, f2⟩ := three (unhide HC7)
      have hcw7 : w4.heap.size < w7.heap.size := by omega
      have HB7 := hide (fun x (hx : x ∈ blk rv2) => (by have := hb7 x hx; omega : w4.heap.size < x))
      clear k7 hb7 hr7 e0 e1 e2 e3 s0 s1 s2
      have HC8 := hide (row3 (.slice (some ⟨w3.heap.size, 0, none⟩) P.length P.length) (.int .i64 j) (.int .i64 g) (unhide HC7))
      have k8 := ((((Kept.refl [w4.heap.size] w7).setCell (p := ⟨w4.heap.size, 0, none⟩) (by simp) (.slice (some ⟨w3.heap.size, 0, none⟩) P.length P.length)).setCell (p := ⟨w4.heap.size, 1, none⟩) (by simp) (.int .i64 j)).setCell (p := ⟨w4.heap.size, 2, none⟩) (by simp) (.int .i64 g)).alloc (.cells #[.slice (some ⟨w3.heap.size, 0, none⟩) P.length P.length, .int .i64 j, .int .i64 g] 42)
      have HCC := hide (((Kept.refl [] _).alloc (.cells #[.slice (some ⟨w3.heap.size, 0, none⟩) P.length P.length, .int .i64 j, .int .i64 g] 42)).heap (unhide HC8) (by simp))
      have HU8 := hide ((unhide HU7).kept k8 (by intro x hx; have := unhide HB6 x hx; simp; omega))
      have HV8 := hide ((unhide HV7).kept k8 (by intro x hx; have := unhide HB7 x hx; simp; omega))
      have HR8 := hide ((unhide HR7).kept k8 (by simp; omega) (by intro x hx; have := unhide Hgv x hx; simp; omega))
      have HD8 := hide ((unhide HD7).kept k8 (by intro x hx; simp [blk] at hx; subst hx; simp; omega))
      have HK8 := hide ((unhide HK7).trans k8 (by simpa using hw4))
      clear k8 HC8
      go_wp2_with fail
      refine (same_any _ _ qq qq _ (unhide HU8) (unhide HV8)).mono ?_
      rintro e w9 ⟨rfl, m9, hw9⟩
      have HR9 := hide (by rw [hw9]; exact (unhide HR8).drewN m9 : ReAt w9 b gv P j g)
      have HD9 := hide (by rw [hw9]; exact (unhide HD8).drewN m9 : Rd w9 (.slice (some ⟨w3.heap.size, 0, none⟩) P.length P.length) P)
      have HK9 := hide (by rw [hw9]; exact (unhide HK8).drewN m9 : Kept [] w w9)
      have HC9 := hide (by rw [hw9]; exact unhide HCC : w9.heap[w4.heap.size]? = some (.cells #[.slice (some ⟨w3.heap.size, 0, none⟩) P.length P.length, .int .i64 j, .int .i64 g] 42 (0, 0)))
      obtain ⟨⟨q0, q1, q2⟩, _⟩ := three (unhide HC9)
      clear hw9 m9 t0 t1 t2 f0 f1 f2
      go_wp2_with fail
      refine (tells_any b gv _ _ P j g _ (unhide HR9)).mono ?_
      rintro e w10 ⟨rfl, k10⟩
      have HR10 := hide ((unhide HR9).kept k10 (by simp) (by simp))
      have HD10 := hide ((unhide HD9).kept k10 (by simp))
      have HK10 := hide ((unhide HK9).trans k10 (by simp))
      have HC10 := hide (k10.heap (unhide HC9) (by simp))
      clear k10
      go_wp2
      go_roundw
      case rel => exact ⟨k + 1, j, g, by omega, by go_num, HR10, HC10, HD10, HK10⟩
      case measure => simp [intOf]; omega
    · have hlt' : ¬ (k : Int) < (ops.length : Int) := by omega
      go_wp2
      go_ret
      exact ⟨by simp, (unhide HK).below (Nat.le_refl _) (by simp)⟩
end Go.Proofs.Ytdnacefdihipnaa
