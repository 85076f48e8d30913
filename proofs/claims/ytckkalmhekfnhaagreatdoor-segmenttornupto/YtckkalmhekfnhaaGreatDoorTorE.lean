import Derived.Test.YtckkalmhekfnhaaGreatDoorTorC
import Derived.Test.YtckkalmhekfnhaaGreatDoorSNum
import Derived.Test.YtckkalmhekfnhaaGreatDoorTorA
import Derived.Test.YtckkalmhekfnhaaGreatDoorTorD
import Derived.Test.YtckkalmhekfnhaaGreatDoorTorB
import Derived.Test.YtckkalmhekfnhaaGreatDoorBase
import Derived.Test.YtckkalmhekfnhaaGreatDoorCards
import Derived.Test.YtckkalmhekfnhaaGreatDoorTie
import Derived.ProofKit
import Derived.OpenShut
import Derived.Deep.Slices
import Derived.SizedLaws
import Derived.Test.YtckkalmhekfnhaaGreatDoorEBat
namespace Go.Proofs.YtckkalmhekfnhaaGreatDoor
open Go.RowKit Go.BigFrame
set_option linter.unusedVariables false
set_option linter.unusedSimpArgs false

theorem chkB_aw : chkB 5 [⟨1, [107], [118]⟩] = 0 := by decide
theorem sbB_aw : (sbB 5 [⟨1, [107], [118]⟩]).length = 25 := by
  rw [sbB_len chkB_aw]
  unfold batB entB enB
  simp [uv_lt]
theorem byN_aw : byN [⟨1, [107], [118]⟩] := by
  intro e he
  rw [List.mem_singleton] at he
  subst he
  exact ⟨by decide, by decide, by decide⟩
theorem RdB.at0 {w : World} {v : Value} {f : Nat} {es : List En} {r : List (Nat × List En)} (h : RdB w v ((f, es) :: r)) : ∃ b off c y, v = .slice (some ⟨b, off, none⟩) (r.length + 1) c ∧ r.length + 1 ≤ c ∧ w.cell? ⟨b, off, none⟩ = some (.int .u64 (f : Int)) ∧ w.cell? ⟨b, off + 1, none⟩ = some y ∧ RdN w y es := by
  obtain ⟨ao, cap, ts, h1, h2, h3, h4, h5, h6⟩ := h
  have hl : ts.length = r.length + 1 := by have := congrArg List.length h2; simpa using this.symm
  obtain ⟨b, off, rfl, hc⟩ := h6 (by omega)
  have h0 := hc 0 (by omega)
  cases ts with
  | nil => simp at hl
  | cons t r' =>
    simp only [List.map_cons, List.cons.injEq, Prod.mk.injEq] at h2
    refine ⟨b, off, cap, t.2.1, by rw [h1, hl], by omega, ?_, ?_, ?_⟩
    · have := h0.1; simp only [Nat.zero_mul, Nat.add_zero, List.getElem_cons_zero] at this; rw [this, h2.1.1]
    · have := h0.2; simp only [Nat.zero_mul, Nat.add_zero, List.getElem_cons_zero] at this; exact this
    · rw [h2.1.2]; exact h5 t (by simp)

set_option maxRecDepth 100000 in
set_option maxHeartbeats 4000000 in
theorem sawake_any (w : World) : Calls Tryz.prog 9 #[] w fun r w' => r = .returned (.bool true) ∧ Kept [] w w' := by
  go_enter Tryz.func9, Tryz.ntmps9
  go_wp2_with fail
  refine Calls.mono (number7_any _) ?_
  rintro r w1 ⟨rfl, k1⟩
  have HK1 := hide k1
  clear k1
  go_wp2_with fail
  refine Calls.mono (name7_any _) ?_
  rintro r w2 ⟨rfl, hw2⟩
  subst w2
  have heq : (seg7.toList == [115, 101, 103, 45, 48, 48, 48, 48, 48, 48, 48, 48, 48, 48, 48, 48, 48, 48, 48, 48, 48, 48, 48, 55]) = true := by rw [ba_toListS]; decide
  have hc1 := Lib.run_convert_bytes_const (P := Tryz.prog) w1 36 5 #[.int .u8 107] 1 1 Tryz.underlying36 Tryz.underlying5
  have hc2 := Lib.run_convert_bytes_const (P := Tryz.prog) (w1.alloc (.cells #[.int .u8 107] 5 (1, 2))) 36 5 #[.int .u8 118] 1 1 Tryz.underlying36 Tryz.underlying5
  rw [show (w1.alloc (.cells #[.int .u8 107] 5 (1, 2))).heap.size = w1.heap.size + 1 from Array.size_push _] at hc2
  have hc3 : #[Value.int IntKind.u8 107].size = 1 := rfl
  have hc4 : #[Value.int IntKind.u8 118].size = 1 := rfl
  rw [hc3] at hc1
  rw [hc4] at hc2
  clear hc3 hc4
  go_wp2_with fail
  clear hc1 hc2 heq
  have HW0 := hide (heap_alloc3e w1 (.cells #[.int .u8 107] 5 (1, 2)) (.cells #[.int .u8 118] 5 (1, 2)) (.cells #[.int .u8 1, .slice (some ⟨w1.heap.size, 0, none⟩) 1 1, .slice (some ⟨w1.heap.size + 1, 0, none⟩) 1 1] 71))
  have HK0 := hide (((((Kept.refl [] w1).alloc (.cells #[.int .u8 107] 5 (1, 2))).alloc (.cells #[.int .u8 118] 5 (1, 2))).alloc (.cells #[.int .u8 1, .slice (some ⟨w1.heap.size, 0, none⟩) 1 1, .slice (some ⟨w1.heap.size + 1, 0, none⟩) 1 1] 71)))
  have HSZ := hide (by simp : (((w1.alloc (.cells #[.int .u8 107] 5 (1, 2))).alloc (.cells #[.int .u8 118] 5 (1, 2))).alloc (.cells #[.int .u8 1, .slice (some ⟨w1.heap.size, 0, none⟩) 1 1, .slice (some ⟨w1.heap.size + 1, 0, none⟩) 1 1] 71)).heap.size = w1.heap.size + 1 + 1 + 1)
  obtain ⟨W0, hW0⟩ : ∃ W, ((w1.alloc (.cells #[.int .u8 107] 5 (1, 2))).alloc (.cells #[.int .u8 118] 5 (1, 2))).alloc (.cells #[.int .u8 1, .slice (some ⟨w1.heap.size, 0, none⟩) 1 1, .slice (some ⟨w1.heap.size + 1, 0, none⟩) 1 1] 71) = W := ⟨_, rfl⟩
  rw [hW0] at HW0 HK0 HSZ ⊢
  clear hW0
  have HB0 := hide (heap_alloc_new W0 (.cells #[.int .u64 5, .slice (some ⟨w1.heap.size + 1 + 1, 0, none⟩) 1 1] 35))
  rw [unhide HSZ] at HB0
  have HN0 := hide ((RdN.one (e := ⟨1, [107], [118]⟩) (unhide HW0).2.2 ⟨by show (1 : Nat) < 256; omega, rd_row [107] (unhide HW0).1 rfl (by decide) 1 rfl (by decide), rd_row [118] (unhide HW0).2.1 rfl (by decide) 1 rfl (by decide)⟩).old ((Kept.refl [] W0).alloc (.cells #[.int .u64 5, .slice (some ⟨w1.heap.size + 1 + 1, 0, none⟩) 1 1] 35)))
  have HKB := hide (((unhide HK1).trans (unhide HK0) (by simp)).alloc (.cells #[.int .u64 5, .slice (some ⟨w1.heap.size + 1 + 1, 0, none⟩) 1 1] 35))
  obtain ⟨W1, hW1⟩ : ∃ W, W0.alloc (.cells #[.int .u64 5, .slice (some ⟨w1.heap.size + 1 + 1, 0, none⟩) 1 1] 35) = W := ⟨_, rfl⟩
  rw [hW1] at HB0 HN0 HKB ⊢
  clear hW1 HW0 HK0 HSZ HK1
  refine Calls.mono (encodeHead_any 3 2 5 4 W1 (by decide) (by decide)) ?_
  rintro r w2 ⟨v2, rfl, n2, k2⟩
  rw [show ehE 4 = 0 by decide]
  have HR2 := hide n2.1
  have hl2 := ehB_len (a := 3) (b := 2) (c := 5) (z := 4) (by decide)
  obtain ⟨a2, m2, c2, hu2, hm2, _⟩ := id n2.1
  subst hu2
  rw [hl2] at hm2
  subst hm2
  have HB2 := hide (k2.heap (unhide HB0) (by simp))
  have HN2 := hide ((unhide HN0).old k2)
  have HK2 := hide ((unhide HKB).trans k2 (by simp))
  clear n2 k2 hl2 HB0 HN0 HKB
  obtain ⟨d0, d1⟩ := bcells (unhide HB2)
  go_wp2_with fail
  refine Calls.mono (segBatch_any 5 _ [⟨1, [107], [118]⟩] w2 (by decide) (unhide HN2)) ?_
  rintro r w3 ⟨v3, rfl, n3, k3⟩
  rw [chkB_aw]
  have HR3 := hide n3.1
  obtain ⟨a3, m3, c3, hu3, hm3, _⟩ := id n3.1
  subst hu3
  rw [sbB_aw] at hm3
  subst hm3
  have HR23 := hide ((unhide HR2).old k3 (by simp))
  have HB3 := hide (k3.heap (unhide HB2) (by simp))
  have HN3 := hide ((unhide HN2).old k3)
  have HK3 := hide ((unhide HK2).trans k3 (by simp))
  clear n3 k3 d0 d1 HB2 HN2 HK2 HR2
  go_wp2_with fail
  refine Calls.mono (join_any _ _ _ _ w3 (unhide HR23) (unhide HR3) (by rw [ehB_len (by decide), sbB_aw]; decide)) ?_
  rintro r w4 ⟨v4, rfl, r4, k4, _⟩
  have HR4 := hide r4
  have HB4 := hide (k4.heap (unhide HB3) (by simp))
  have HN4 := hide ((unhide HN3).old k4)
  have HK4 := hide ((unhide HK3).trans k4 (by simp))
  clear r4 k4 HB3 HN3 HK3
  go_wp2_with fail
  obtain ⟨s1, s2, s3, s4⟩ := seg_one (a := 3) (b := 2) (c := 5) (z := 4) (es := [⟨1, [107], [118]⟩]) (by decide) (by decide) (by decide) (by decide) chkB_aw byN_aw
  have s5 : hdC (ehB 3 2 5 4 ++ sbB 5 [⟨1, [107], [118]⟩]) = ⟨3, 2, 5, 4⟩ := by unfold hdC; rw [s1]; rfl
  rw [sbB_aw] at s3
  refine Calls.mono (read_any _ _ w4 (unhide HR4) (by rw [List.length_append, ehB_len (by decide), sbB_aw]; decide)) ?_
  rintro r w5 ⟨v5, rfl, r5, k5, _⟩
  rw [s2] at r5
  rw [s3, s4, s5]
  clear s1 s2 s3 s4 s5
  obtain ⟨b5, o5, c5, y5, rfl, hc5, e0, e1, hy⟩ := r5.at0
  obtain ⟨ay, ny, cy, _, _, hyy, _⟩ := id hy
  subst hyy
  have HY := hide hy
  have HB5 := hide (k5.heap (unhide HB4) (by simp))
  have HN5 := hide ((unhide HN4).old k5)
  have HK5 := hide ((unhide HK4).trans k5 (by simp))
  have HE := hide (And.intro e0 e1)
  clear r5 k5 hy e0 e1 HB4 HN4 HK4
  simp only [List.length_nil, Nat.zero_add, Nat.reduceAdd, Int.cast_ofNat_Int]
  have HS6 := hide (heap_alloc_new w5 (.cells #[.int .u64 3, .int .u64 2, .int .u64 5, .int .i64 4, .slice (some ⟨b5, o5, none⟩) 1 c5, .int .i64 73] 51))
  have k6 := (Kept.refl [] w5).alloc (.cells #[.int .u64 3, .int .u64 2, .int .u64 5, .int .i64 4, .slice (some ⟨b5, o5, none⟩) 1 c5, .int .i64 73] 51)
  have HB6 := hide (k6.heap (unhide HB5) (by simp))
  have HN6 := hide ((unhide HN5).old k6)
  have HY6 := hide ((unhide HY).old k6)
  have HK6 := hide ((unhide HK5).trans k6 (by simp))
  have HE6 := hide (And.intro (k6.cell (unhide HE).1 (by simp)) (k6.cell (unhide HE).2 (by simp)))
  clear k6 HB5 HN5 HY HK5 HE
  obtain ⟨x0, x1, x2, x3, x4, x5⟩ := scells (unhide HS6)
  go_upto_region 12 with fail
  obtain ⟨W6, hW6⟩ : ∃ W, w5.alloc (.cells #[.int .u64 3, .int .u64 2, .int .u64 5, .int .i64 4, .slice (some ⟨b5, o5, none⟩) 1 c5, .int .i64 73] 51) = W := ⟨_, rfl⟩
  rw [hW6] at HS6 HB6 HN6 HY6 HK6 HE6 x0 x1 x2 x3 x4 x5 ⊢
  clear hW6
  have HRG := hide (fun j u hj => by
    match j with
    | 0 => simp only [List.getElem?_cons_zero, Option.some.injEq] at hj; subst hj; exact (unhide HE6).1
    | 1 => simp only [List.getElem?_cons_succ, List.getElem?_cons_zero, Option.some.injEq] at hj; subst hj; exact (unhide HE6).2
    | j + 2 => simp at hj : W6.rangeAt b5 o5 [.int .u64 5, .slice ay ny cy])
  refine wp_quiet_tail 5 (by kernel_rfl) (by kernel_rfl) ?_
  simp only [List.take_succ_cons, List.take_zero, List.drop_succ_cons, List.drop_zero]
  repeat (go_big_quiet_step (fail))
  refine wpQuiet_mid rfl 35 _ rfl b5 o5 rfl [.int .u64 5, .slice ay ny cy] _ (fun w' hw' => by obtain ⟨n, rfl⟩ := hw'; exact unhide HRG) Tryz.underlying35 rfl Tryz.size_batch9 ?_
  simp only [Act.put, List.setIfInBounds_toArray, List.set_cons_succ, List.set_cons_zero]
  refine wpQuiet_load_row rfl 35 _ rfl (w1.heap.size + 1 + 1 + 1) rfl 35 #[.int .u64 5, .slice (some ⟨w1.heap.size + 1 + 1, 0, none⟩) 1 1] (0, 0) _ (fun w' hw' => by obtain ⟨n, rfl⟩ := hw'; exact unhide HB6) Tryz.underlying35 rfl Tryz.size_batch9 ?_
  simp only [Act.put, List.setIfInBounds_toArray, List.set_cons_succ, List.set_cons_zero]
  refine wpQuiet_nil ?_
  rintro _ ⟨n6, rfl⟩
  clear x0 x1 x2 x3 x4 x5
  go_wp2_with fail
  refine Calls.mono (sameBatch_any 5 5 _ _ [⟨1, [107], [118]⟩] [⟨1, [107], [118]⟩] _ ((unhide HY6).old ((Kept.refl [] W6).drewN n6)) ((unhide HN6).old ((Kept.refl [] W6).drewN n6))) ?_
  rintro r w7 ⟨rfl, k7⟩
  have HK7 := hide (((unhide HK6).drewN n6).trans k7 (by simp))
  clear k7
  rw [show (decide ((5 : Nat) = 5) && decide ([(⟨1, [107], [118]⟩ : En)] = [⟨1, [107], [118]⟩])) = true by decide]
  go_wp2
  go_ret
  exact ⟨rfl, unhide HK7⟩
end Go.Proofs.YtckkalmhekfnhaaGreatDoor
namespace Go.Proofs.YtckkalmhekfnhaaGreatDoor
open Go.RowKit Go.BigFrame
set_option linter.unusedVariables false
set_option linter.unusedSimpArgs false

/-- Batches that still read so, whatever turns outside [B, C). -/
def RdS (w : World) (bv : Value) (bs : List (Nat × List En)) (B C : Nat) : Prop := C ≤ w.heap.size ∧ ∀ M w2, Kept M w w2 → (∀ x ∈ M, x < B ∨ C ≤ x) → RdB w2 bv bs
theorem RdS.mk {B : Nat} {w : World} {bv : Value} {bs : List (Nat × List En)} (h : ∀ M w2, Kept M w w2 → (∀ x ∈ M, x < B) → RdB w2 bv bs) : RdS w bv bs B w.heap.size := by
  refine ⟨Nat.le_refl _, fun M w2 k hM => h (M.filter (· < B)) w2 ⟨k.os, k.tape, k.output, k.size, fun j hj hn => k.block j hj (fun hm => hn (by
    rw [List.mem_filter]
    refine ⟨hm, ?_⟩
    have := hM j hm
    simp; omega))⟩ (fun x hx => by rw [List.mem_filter] at hx; simpa using hx.2)⟩
theorem RdS.pass {B C : Nat} {w w' : World} {bv : Value} {bs : List (Nat × List En)} (h : RdS w bv bs B C) (k : Kept [] w w') : RdS w' bv bs B C :=
  ⟨Nat.le_trans h.1 k.size, fun M w2 k2 hM => h.2 M w2 ((k.mono (M := M) (by simp)).trans k2 (fun x hx => Or.inl hx)) hM⟩
def tup0 : Value → Value
  | .tuple xs => xs.getD 0 undef
  | _ => undef
def tup1 : Value → Value
  | .tuple xs => xs.getD 1 undef
  | _ => undef
theorem wp_allocseg {o : Oper} {a : Act} {w : World} {K : Act → World → Prop} {Q : Exit → Act → World → Prop} (ho : o.op = .alloc 51) (h : K (a.put o.dst (.pointer (some ⟨w.heap.size, 0, none⟩))) (w.alloc (.cells #[.int .u64 0, .int .u64 0, .int .u64 0, .int .i64 0, .slice none 0 0, .int .i64 0] 51))) : o.wp Tryz.prog a w K Q := by
  unfold Oper.wp execOp
  simp only [ho]
  go_simp
  exact h
/-- A segment's memory that was laid behind W. -/
def Als (W : World) (u : Value) (cs : Array Value) (w : World) : Prop := ∃ g, u = .pointer (some ⟨g, 0, none⟩) ∧ W.heap.size ≤ g ∧ w.heap[g]? = some (.cells cs 51 (0, 0))
abbrev zSeg : Array Value := #[.int .u64 0, .int .u64 0, .int .u64 0, .int .i64 0, .slice none 0 0, .int .i64 0]
theorem Als.pass {W w w' : World} {u : Value} {cs : Array Value} (h : Als W u cs w) (k : Kept [] w w') : Als W u cs w' := by
  obtain ⟨g, h1, h2, h3⟩ := h; exact ⟨g, h1, h2, k.heap h3 (by simp)⟩
theorem als_new {W w : World} (k : Kept [] W w) : Als W (.pointer (some ⟨w.heap.size, 0, none⟩)) zSeg (w.alloc (.cells zSeg 51)) := ⟨_, rfl, k.size, heap_alloc_new _ _⟩

set_option maxRecDepth 100000 in
set_option maxHeartbeats 8000000 in
theorem segmentGap_walk (a b c : Nat) (z : Int) (v : Value) (bs : List (Nat × List En)) (gap : Nat) (kk : Int) (w : World) (ha : a < 18446744073709551616) (hb : b < 18446744073709551616) (hc : c < 18446744073709551616) (hz : -9223372036854775808 ≤ z ∧ z ≤ 9223372036854775807) (h : RdB w v bs) (hl : bs.length ≤ 1048576) (hes : ∀ t ∈ bs, t.2.length ≤ 1048576) (hgp : gap < 18446744073709551616) (hkk : -9223372036854775808 ≤ kk ∧ kk ≤ 9223372036854775807) (_ : True) :
    Calls Tryz.prog 8 #[.agg #[.int .u64 a, .int .u64 b, .int .u64 c, .int .i64 z], v, .int .u64 gap, .int .i64 kk] w fun e w' => e = .returned (.bool true) ∧ Below w.heap.size w w' := by
  have H := hide h
  have HES := hide hes
  obtain ⟨av, cv, rfl, _, _⟩ := h.shape
  have HBY := hide h.byN
  clear h hes
  have HH0 := hide (heap_alloc_new w (.cells #[.int .u64 (a : Int), .int .u64 (b : Int), .int .u64 (c : Int), .int .i64 z] 32))
  have HK0 := hide ((Kept.refl [] w).alloc (.cells #[.int .u64 (a : Int), .int .u64 (b : Int), .int .u64 (c : Int), .int .i64 z] 32))
  go_enter Tryz.func8, Tryz.ntmps8
  go_wp2_with fail
  obtain ⟨W0, hW0⟩ : ∃ W, w.alloc (.cells #[.int .u64 (a : Int), .int .u64 (b : Int), .int .u64 (c : Int), .int .i64 z] 32) = W := ⟨_, rfl⟩
  rw [hW0] at HH0 HK0 ⊢
  clear hW0
  refine Calls.mono (sawake_any W0) ?_
  rintro e w1 ⟨rfl, k1⟩
  have HH1 := hide (k1.heap (unhide HH0) (by simp))
  have HK1 := hide ((unhide HK0).trans k1 (by simp))
  clear k1 HH0 HK0
  obtain ⟨d0, d1, d2, d3⟩ := hcells (unhide HH1)
  go_wp2_with fail
  refine Calls.mono (laidS_any a b c z _ bs w1 ha hc hz ((unhide H).old (unhide HK1)) hl (unhide HES)) ?_
  rintro e w2 ⟨pv, Av, tv, rfl, hres, k2⟩
  have HH2 := hide (k2.heap (unhide HH1) (by simp))
  have HK2 := hide ((unhide HK1).trans k2 (by simp))
  clear k2 d0 d1 d2 d3 HH1 HK1
  obtain ⟨L, hL⟩ : ∃ L, bs.map (·.2) = L := ⟨_, rfl⟩
  have HLL := hide (by rw [← hL, List.length_map]; exact hl : L.length ≤ 1048576)
  rw [hL] at hres HBY ⊢
  clear hL
  by_cases hok : ldOk c z L = true
  · obtain ⟨r1, r2, r3⟩ := hres hok
    rw [hok]
    have hw : wideB z = true := by unfold ldOk at hok; rw [Bool.and_eq_true] at hok; exact hok.1
    have hk : okS c L = true := by unfold ldOk at hok; rw [Bool.and_eq_true] at hok; exact hok.2
    have HSG := hide (fun (k f : Nat) (es : List En) (rest : List Nat) (h1 : k < L.length) (h2 : f < 18446744073709551616) (h3 : chkB f es = 0) (h4 : byN es) (h5 : f ≠ endS c (L.take k)) => seg_gap (a := a) (b := b) rest ha hb hc hw hk (unhide HBY) h1 h2 h3 h4 h5)
    have HCA := hide (okS_mem c L hk)
    have HEN := hide (fun (k : Nat) (h1 : k < L.length) => endS_take k c L h1)
    have HRL := hide (runS_len_le c L hc hk)
    have HEL := hide (ehB_len (a := a) (b := b) (c := c) hw)
    have HZ := hide (by have : 1 ≤ z ∧ z ≤ 32 := by simpa [wideB] using hw
                        omega : (z.toNat : Int) = z)
    have HNL := hide (numS_len c L)
    obtain ⟨D, hD⟩ : ∃ D, numS c L = D := ⟨_, rfl⟩
    have hDL : D.length = L.length := by rw [← hD, numS_len]
    rw [hD] at r1 r2 r3 HRL
    simp only [hD] at HSG HEN HCA
    have HDL := hide hDL
    clear hD hDL hok hk hw hres HNL
    obtain ⟨E, hE⟩ : ∃ E, ehB a b c z = E := ⟨_, rfl⟩
    rw [hE] at r1 HEL
    simp only [hE] at HSG
    clear hE
    have HPL := hide (by rw [List.length_append, unhide HEL]; have := unhide HRL; have := unhide HLL; omega : (E ++ runS D).length ≤ 48 + 30018 * 1048576)
    obtain ⟨a1, n1, c1, rfl, hn1, _⟩ := id r1
    obtain ⟨a2, c2, rfl, _, _⟩ := r2.shape
    obtain ⟨X, hX⟩ : ∃ X, 48 :: atS 48 D = X := ⟨_, rfl⟩
    have HXL := hide (by rw [← hX, List.length_cons, atS_len] : X.length = D.length + 1)
    have HXK := hide (fun (k : Nat) (h1 : k ≤ D.length) => (by rw [← hX]; exact atS_at k 48 D h1 : X[k]? = some (48 + (runS (D.take k)).length)))
    rw [hX] at r3
    clear hX
    obtain ⟨bt, ct, rfl, hct, hcl⟩ := id r3
    have HR1 := hide r1
    have HR2 := hide r2
    have HR3 := hide r3
    clear r1 r2 r3 hcl
    obtain ⟨P, hP⟩ : ∃ P, E ++ runS D = P := ⟨_, rfl⟩
    have HP := hide hP
    rw [hP] at HR1 HPL hn1
    clear hP
    subst hn1
    by_cases hk0 : kk < 0
    · go_wp2
      go_ret
      exact ⟨rfl, (unhide HK2).below (Nat.le_refl _) (by simp)⟩
    obtain ⟨k, rfl⟩ : ∃ k : Nat, kk = (k : Int) := ⟨kk.toNat, by omega⟩
    by_cases hk1 : (D.length : Int) ≤ (k : Int)
    · go_wp2
      go_ret
      exact ⟨rfl, (unhide HK2).below (Nat.le_refl _) (by simp)⟩
    by_cases hg0 : gap = 0
    · subst hg0
      go_wp2
      go_ret
      exact ⟨rfl, (unhide HK2).below (Nat.le_refl _) (by simp)⟩
    have hg1 : ((gap : Int) == 0) = false := by rw [beq_eq_false_iff_ne]; omega
    by_cases hp1 : (40000 : Int) < (P.length : Int)
    · go_wp2
      go_ret
      exact ⟨rfl, (unhide HK2).below (Nat.le_refl _) (by simp)⟩
    have hkD : k < D.length := by omega
    have HRLT := hide (run_lt hkD (unhide HCA D[k] (List.getElem_mem _)))
    obtain ⟨b0, o0, y0, h0, e0, e1, hy0⟩ := (unhide HR2).at k hkD
    subst h0
    have HEK := hide (by have h9 := unhide HEN k (by rw [← unhide HDL]; exact hkD); rw [List.getElem?_eq_getElem hkD] at h9; have := congrArg Prod.fst (Option.some.inj h9); exact this : D[k].1 = endS c (L.take k))
    obtain ⟨i, es, hDk⟩ : ∃ i es, D[k] = (i, es) := ⟨_, _, rfl⟩
    have HCK := hide (unhide HCA D[k] (List.getElem_mem _))
    rw [hDk] at e0 hy0 HEK HCK
    simp only at e0 hy0 HEK HCK
    have HYB := hide hy0.byN
    have HY0 := hide hy0
    obtain ⟨ay, ny, cy, _, _, hv0, hny, _⟩ := id hy0
    subst hv0
    have HEL2 := hide (by have h9 := (chkB_zero (unhide HCK)).1; omega : es.length ≤ 1048576)
    clear hy0 hDk
    go_wp2_with fail
    clear e0 e1
    refine Calls.mono (twinBatch_any i _ es w2 (unhide HY0) (unhide HEL2)) ?_
    rintro e w3 ⟨v3, rfl, n3, k3⟩
    obtain ⟨a3, n3', c3, _, _, hv3, _⟩ := id n3.rdN
    subst hv3
    have HN3 := hide n3.rdN
    have HA3 := hide ((unhide HR1).old k3 (by simp))
    have HB3 := hide ((unhide HR2).old k3)
    have HJ3 := hide (fun (j : Nat) (hj : j < X.length) => k3.cell ((by obtain ⟨b9, c9, e9, _, h9⟩ := unhide HR3; cases e9; exact h9 j hj) : w2.cell? ⟨bt, j, none⟩ = some (.int .i64 (X[j] : Int))) (by simp))
    have HH3 := hide (k3.heap (unhide HH2) (by simp))
    have HK3 := hide ((unhide HK2).trans k3 (by simp))
    clear n3 k3
    obtain ⟨f, hf⟩ : ∃ f, (i + gap) % 18446744073709551616 = f := ⟨_, rfl⟩
    have hval : IntKind.u64.wrap ((i : Int) + (gap : Int)) = (f : Int) := by rw [IntKind.wrap_u64, ← hf]; simp
    have HF := hide hf
    have hfl : f < 18446744073709551616 := by omega
    have HFL := hide hfl
    clear hf hfl
    obtain ⟨g0, g1⟩ := bcells (heap_alloc_new w3 (.cells #[.int .u64 (i : Int), .slice a3 n3' c3] 35))
    obtain ⟨q0, q1⟩ := bfroz (heap_alloc_new w3 (.cells #[.int .u64 (i : Int), .slice a3 n3' c3] 35))
    go_wp2_with fail
    clear g0 g1 q0 q1 hval
    have K4 := hide ((Kept.refl [] w3).alloc (.cells #[.int .u64 (f : Int), .slice a3 n3' c3] 35))
    refine Calls.mono (segBatch_any f _ es _ (unhide HFL) ((unhide HN3).old (unhide K4))) ?_
    rintro e w5 ⟨vq, rfl, nq9, k5⟩
    have K35 := (unhide K4).trans k5 (by simp)
    obtain ⟨aq, nq, cq, rfl, _⟩ := id nq9.1
    have HQ5 := hide nq9.1
    have HA5 := hide ((unhide HA3).old K35 (by simp))
    have HB5 := hide ((unhide HB3).old K35)
    have HJ5 := hide (fun (j : Nat) (hj : j < X.length) => K35.cell (unhide HJ3 j hj) (by simp))
    have HH5 := hide (K35.heap (unhide HH3) (by simp))
    have HK5 := hide ((unhide HK3).trans K35 (by simp))
    clear nq9 k5 K35 K4 HA3 HB3 HJ3 HH3 HK3 HN3
    by_cases hck : chkB f es = 0
    · rw [hck]
      have HCF := hide hck
      clear hck
      have hXk : k < X.length := by rw [unhide HXL]; omega
      obtain ⟨U, hU⟩ : ∃ U, 48 + (runS (D.take k)).length = U := ⟨_, rfl⟩
      have HXU := hide (by have h9 := unhide HXK k (by omega); rw [hU, List.getElem?_eq_getElem hXk] at h9; exact Option.some.inj h9 : X[k] = U)
      have HCX := hide (by have h9 := unhide HJ5 k hXk; rw [unhide HXU] at h9; exact h9 : w5.cell? ⟨bt, k, none⟩ = some (.int .i64 (U : Int)))
      have HPT := hide (by rw [← unhide HP, ← hU, ← unhide HEL]; exact run_take : P.take U = E ++ runS (D.take k))
      have hUP : U ≤ P.length := by
        have h9 : (E ++ runS (D.take k)).length ≤ P.length := by rw [← unhide HPT, List.length_take]; omega
        rw [List.length_append, unhide HEL, hU] at h9; exact h9
      have HTK := hide (by rw [List.length_take]; omega : (D.take k).length = k)
      have HNE := hide (by rw [← unhide HEK, ← unhide HF]; have : i < 18446744073709551616 := by have := chkB_lt (unhide HCK); omega
                           omega : f ≠ endS c (L.take k))
      have HGP := hide (by
        have h9 := unhide HSG k f es (P.drop U) (by rw [← unhide HDL]; exact hkD) (unhide HFL) (unhide HCF) (unhide HYB) (unhide HNE)
        rw [hU, ← List.append_assoc, ← unhide HPT] at h9
        exact h9)
      have HSBL := hide (by rw [sbB_len (unhide HCF)]; have := batB_lenS (unhide HCF) (unhide HFL); omega : (sbB f es).length ≤ 30018)
      have HJL := hide (by rw [List.length_drop]; have := unhide HSBL; omega : (sbB f es).length + (P.drop U).length ≤ 100000)
      have HJM := hide (by simp only [List.length_append, List.length_take]; have := unhide HJL; omega : (P.take U).length + (sbB f es ++ P.drop U).length ≤ 200000 ∧ (P.take U ++ (sbB f es ++ P.drop U)).length ≤ 200000)
      have hU0 : 48 ≤ U := by omega
      have hUL : U < P.length := by rw [← unhide HP, List.length_append, unhide HEL]; have := unhide HRLT; omega
      clear hU
      obtain ⟨_, _, _, ep, _, hcp, ⟨hcm, _⟩, _, _, hclp⟩ := id (unhide HA5)
      cases ep
      obtain ⟨pb, po, eP, _⟩ := hclp (by omega)
      subst eP
      clear hclp
      have HT5 := hide (by have h9 := Rd.cutN (unhide HA5) 0 U (by omega) hUP; simpa using h9 : Rd w5 (.slice (some ⟨pb, po, none⟩) U c1) (P.take U))
      have HD5 := hide ((unhide HA5).dropN U hUP)
      go_upto_region 11 with fail
      refine wp_gp22 (by kernel_rfl) (by kernel_rfl) (by kernel_rfl) (by kernel_rfl) (by kernel_rfl) (by kernel_rfl) (by kernel_rfl) (by kernel_rfl) (by kernel_rfl) (by kernel_rfl) (by kernel_rfl) (by kernel_rfl) (by kernel_rfl) (by kernel_rfl) (by kernel_rfl) (by kernel_rfl) (by kernel_rfl) (by kernel_rfl) (by kernel_rfl) (by kernel_rfl) (by kernel_rfl) (by kernel_rfl) (by kernel_rfl) (by kernel_rfl) (by kernel_rfl) (by kernel_rfl) (by kernel_rfl) (by kernel_rfl) (by kernel_rfl) (by kernel_rfl) (by kernel_rfl) (by kernel_rfl) (by kernel_rfl) (by kernel_rfl) (by kernel_rfl) (by kernel_rfl) (by kernel_rfl) (by kernel_rfl) (by kernel_rfl) (by kernel_rfl) (by kernel_rfl) (by kernel_rfl) (by kernel_rfl) (by kernel_rfl) (by kernel_rfl) (by kernel_rfl) (by kernel_rfl) (by kernel_rfl) (by kernel_rfl) (by kernel_rfl) (by kernel_rfl) rfl rfl rfl rfl rfl (by simp) (by simp) (by simp) (by simp) (by simp) (by simp)
        (.slice (some ⟨pb, po, none⟩) P.length c1) (.slice (some ⟨bt, 0, none⟩) X.length ct) (.int .i64 (k : Int)) (.pointer (some ⟨bt, k, none⟩)) (.int .i64 (U : Int)) (.slice (some ⟨pb, po, none⟩) U c1) (.slice aq nq cq) (.slice (some ⟨pb, po, none⟩) P.length c1) (.slice (some ⟨bt, 0, none⟩) X.length ct) (.int .i64 (k : Int)) (.pointer (some ⟨bt, k, none⟩)) (.int .i64 (U : Int)) (.slice (some ⟨pb, po + U, none⟩) (P.length - U) (c1 - U)) _ _ _ _ _ _ _ _ _ _ _ _ _
        (fun w' => w'.cell? ⟨bt, k, none⟩ = some (.int .i64 (U : Int)))
        (fun w' => Kept [] w5 w')
        (fun u13 w' => Kept [] w5 w' ∧ Rd w' u13 (sbB f es ++ P.drop U))
        (fun u19 w' => Kept [] w5 w' ∧ Als w5 u19 zSeg w')
        (fun u13 u14 w' => Kept [] w5 w' ∧ Rd w' u14 (P.take U ++ (sbB f es ++ P.drop U)))
        (fun u13 u19 w' => Kept [] w5 w' ∧ Rd w' u13 (sbB f es ++ P.drop U) ∧ Als w5 u19 zSeg w')
        (fun u13 u14 u15 w' => Kept [] w5 w' ∧ ∃ aS cS B C, u15 = .tuple #[.agg #[.int .u64 (a : Int), .int .u64 (b : Int), .int .u64 (c : Int), .int .i64 z, .slice aS k cS, .int .i64 (U : Int)], .int .i64 0] ∧ RdS w' (.slice aS k cS) (D.take k) B C)
        (fun u13 u14 u19 w' => Kept [] w5 w' ∧ Rd w' u14 (P.take U ++ (sbB f es ++ P.drop U)) ∧ Als w5 u19 zSeg w')
        (fun u13 u14 u15 u19 w' => Kept [] w5 w' ∧ ∃ aS cS B C, u15 = .tuple #[.agg #[.int .u64 (a : Int), .int .u64 (b : Int), .int .u64 (c : Int), .int .i64 z, .slice aS k cS, .int .i64 (U : Int)], .int .i64 0] ∧ RdS w' (.slice aS k cS) (D.take k) B C ∧ ∃ g, u19 = .pointer (some ⟨g, 0, none⟩) ∧ w5.heap.size ≤ g ∧ w'.heap[g]? = some (.cells zSeg 51 (0, 0)) ∧ (g < B ∨ C ≤ g))
        (fun u13 u14 u15 u19 u20 w' => Kept [] w5 w' ∧ ∃ aS cS g, u15 = .tuple #[.agg #[.int .u64 (a : Int), .int .u64 (b : Int), .int .u64 (c : Int), .int .i64 z, .slice aS k cS, .int .i64 (U : Int)], .int .i64 0] ∧ RdB w' (.slice aS k cS) (D.take k) ∧ u19 = .pointer (some ⟨g, 0, none⟩) ∧ w'.heap[g]? = some (.cells #[.int .u64 (a : Int), .int .u64 (b : Int), .int .u64 (c : Int), .int .i64 z, .slice aS k cS, .int .i64 (U : Int)] 51 (0, 0)))
        (fun u13 u14 u15 => u15) (fun u13 u14 u15 => tup0 u15) (fun u13 u14 u15 => tup1 u15) (fun u13 u14 u15 u19 u20 => tup1 u15)
        (by simp only [Act.put, List.setIfInBounds_toArray, List.set_cons_zero, List.set_cons_succ]; rfl) (by exact Or.inl ⟨by rfl, fun W' hW' => by go_simp⟩) (by simp only [Act.put, List.setIfInBounds_toArray, List.set_cons_zero, List.set_cons_succ]; rfl) (by exact Or.inl ⟨by rfl, fun W' hW' => by go_simp⟩) (by simp only [Act.put, List.setIfInBounds_toArray, List.set_cons_zero, List.set_cons_succ]; rfl) (by exact Or.inl ⟨by rfl, fun W' hW' => by go_simp⟩) (by simp only [Act.put, List.setIfInBounds_toArray, List.set_cons_zero, List.set_cons_succ]; rfl) (by exact Or.inl ⟨by rfl, fun W' hW' => by go_simp⟩) (by simp only [Act.put, List.setIfInBounds_toArray, List.set_cons_zero, List.set_cons_succ]; rfl) (by exact Or.inl ⟨by rfl, fun W' hW' => run_load1 3 _ rfl ⟨bt, k, none⟩ rfl W' _ .i64 (by kernel_rfl) hW'⟩) (by simp only [Act.put, List.setIfInBounds_toArray, List.set_cons_zero, List.set_cons_succ]; rfl) (by exact Or.inl ⟨by rfl, fun W' hW' => by go_simp; intro h9; exact absurd h9 (by omega)⟩) (by simp only [Act.put, List.setIfInBounds_toArray, List.set_cons_zero, List.set_cons_succ]; rfl) (by exact Or.inl ⟨by rfl, fun W' hW' => by go_simp⟩) (by simp only [Act.put, List.setIfInBounds_toArray, List.set_cons_zero, List.set_cons_succ]; rfl) (by exact Or.inl ⟨by rfl, fun W' hW' => by go_simp⟩) (by simp only [Act.put, List.setIfInBounds_toArray, List.set_cons_zero, List.set_cons_succ]; rfl) (by exact Or.inl ⟨by rfl, fun W' hW' => by go_simp⟩) (by simp only [Act.put, List.setIfInBounds_toArray, List.set_cons_zero, List.set_cons_succ]; rfl) (by exact Or.inl ⟨by rfl, fun W' hW' => by go_simp⟩) (by simp only [Act.put, List.setIfInBounds_toArray, List.set_cons_zero, List.set_cons_succ]; rfl) (by exact Or.inl ⟨by rfl, fun W' hW' => by go_simp⟩) (by simp only [Act.put, List.setIfInBounds_toArray, List.set_cons_zero, List.set_cons_succ]; rfl) (by exact Or.inl ⟨by rfl, fun W' hW' => run_load1 3 _ rfl ⟨bt, k, none⟩ rfl W' _ .i64 (by kernel_rfl) hW'⟩) (by simp only [Act.put, List.setIfInBounds_toArray, List.set_cons_zero, List.set_cons_succ]; rfl) (by exact Or.inl ⟨by rfl, fun W' hW' => by go_simp; omega⟩)
        ((Kept.refl [] w5).drew)
        ⟨fun w' h => h.cell (unhide HCX) (by simp), fun _ w' h => h.1.cell (unhide HCX) (by simp), fun _ w' h => h.1.cell (unhide HCX) (by simp), fun _ _ w' h => h.1.cell (unhide HCX) (by simp), fun _ _ w' h => h.1.cell (unhide HCX) (by simp), fun _ _ _ w' h => h.1.cell (unhide HCX) (by simp), fun _ _ _ w' h => h.1.cell (unhide HCX) (by simp), fun _ _ _ _ w' h => h.1.cell (unhide HCX) (by simp), fun _ _ _ _ _ w' h => h.1.cell (unhide HCX) (by simp)⟩
        (by
      rintro w' k0 K hK
      refine wp_callN rfl Tryz.call27 [.slice aq nq cq, .slice (some ⟨pb, po + U, none⟩) (P.length - U) (c1 - U)] rfl (join_any _ _ (sbB f es) (P.drop U) w' ((unhide HQ5).old k0 (by simp)) ((unhide HD5).old k0 (by simp)) (by have := unhide HJL; omega)) ?_
      rintro e w2 ⟨v9, rfl, r9, k9, _⟩
      exact ⟨_, rfl, hK _ _ ⟨k0.trans k9 (by simp), r9⟩⟩) (by
      rintro w' k0 K hK
      exact wp_allocseg rfl (hK _ _ ⟨k0.alloc _, als_new k0⟩)) (by
      rintro u13 w' ⟨k0, r13⟩ K hK
      refine wp_callN rfl Tryz.call27 [.slice (some ⟨pb, po, none⟩) U c1, u13] rfl (join_any _ _ (P.take U) (sbB f es ++ P.drop U) w' ((unhide HT5).old k0 (by simp)) r13 (by have := unhide HJM; omega)) ?_
      rintro e w2 ⟨v9, rfl, r9, k9, _⟩
      exact ⟨_, rfl, hK _ _ ⟨k0.trans k9 (by simp), r9⟩⟩) (by
      rintro u13 w' ⟨k0, r13⟩ K hK
      exact wp_allocseg rfl (hK _ _ ⟨k0.alloc _, r13.old ((Kept.refl [] w').alloc _) (by simp), als_new k0⟩)) (by
      rintro u19 w' ⟨k0, a0⟩ K hK
      refine wp_callN rfl Tryz.call27 [.slice aq nq cq, .slice (some ⟨pb, po + U, none⟩) (P.length - U) (c1 - U)] rfl (join_any _ _ (sbB f es) (P.drop U) w' ((unhide HQ5).old k0 (by simp)) ((unhide HD5).old k0 (by simp)) (by have := unhide HJL; omega)) ?_
      rintro e w2 ⟨v9, rfl, r9, k9, _⟩
      exact ⟨_, rfl, hK _ _ ⟨k0.trans k9 (by simp), r9, a0.pass k9⟩⟩) (by
      rintro u13 u14 w' ⟨k0, r14⟩ K hK
      refine wp_callN rfl Tryz.call21 [u14] rfl (read_any _ _ w' r14 (by have := unhide HJM; omega)) ?_
      rintro e w2 ⟨v9, rfl, r9, k9, st9⟩
      rw [(unhide HGP).2.2.1] at r9 st9
      obtain ⟨a9, c9, rfl, _, _⟩ := r9.shape
      rw [unhide HTK] at r9 st9
      refine ⟨_, rfl, hK _ _ ?_⟩
      rw [(unhide HGP).1, (unhide HGP).2.1, (unhide HGP).2.2.2, unhide HTK, show ((0 : Nat) : Int) = 0 from rfl]
      simp only [unhide HZ]
      exact ⟨k0.trans k9 (by simp), a9, c9, _, _, rfl, RdS.mk st9⟩) (by
      rintro u13 u14 w' ⟨k0, r14⟩ K hK
      exact wp_allocseg rfl (hK _ _ ⟨k0.alloc _, r14.old ((Kept.refl [] w').alloc _) (by simp), als_new k0⟩)) (by
      rintro u13 u19 w' ⟨k0, r13, a0⟩ K hK
      refine wp_callN rfl Tryz.call27 [.slice (some ⟨pb, po, none⟩) U c1, u13] rfl (join_any _ _ (P.take U) (sbB f es ++ P.drop U) w' ((unhide HT5).old k0 (by simp)) r13 (by have := unhide HJM; omega)) ?_
      rintro e w2 ⟨v9, rfl, r9, k9, _⟩
      exact ⟨_, rfl, hK _ _ ⟨k0.trans k9 (by simp), r9, a0.pass k9⟩⟩) (by
      rintro u13 u14 u15 w' ⟨k0, aS, cS, B, C, rfl, r5⟩ K hK
      exact wp_allocseg rfl (hK _ _ ⟨k0.alloc _, aS, cS, B, C, rfl, r5.pass ((Kept.refl [] w').alloc _), w'.heap.size, rfl, k0.size, heap_alloc_new _ _, Or.inr r5.1⟩)) (by
      rintro u13 u14 u19 w' ⟨k0, r14, g, rfl, hg, hh⟩ K hK
      refine wp_callN rfl Tryz.call21 [u14] rfl (read_any _ _ w' r14 (by have := unhide HJM; omega)) ?_
      rintro e w2 ⟨v9, rfl, r9, k9, st9⟩
      rw [(unhide HGP).2.2.1] at r9 st9
      obtain ⟨a9, c9, rfl, _, _⟩ := r9.shape
      rw [unhide HTK] at r9 st9
      refine ⟨_, rfl, hK _ _ ?_⟩
      rw [(unhide HGP).1, (unhide HGP).2.1, (unhide HGP).2.2.2, unhide HTK, show ((0 : Nat) : Int) = 0 from rfl]
      simp only [unhide HZ]
      exact ⟨k0.trans k9 (by simp), a9, c9, _, _, rfl, RdS.mk st9, g, rfl, hg, k9.heap hh (by simp), Or.inl (lt_of_block hh)⟩)
        (by
      rintro u13 u14 u15 u19 w' ⟨k0, aS, cS, B, C, rfl, r5, g, rfl, hg, hh, hgb⟩ K hK
      have hk2 := hK undef _ ⟨Kept.setRow k0 (Or.inr hg) #[.int .u64 (a : Int), .int .u64 (b : Int), .int .u64 (c : Int), .int .i64 z, .slice aS k cS, .int .i64 (U : Int)], aS, cS, g, rfl, r5.2 [g] _ (Kept.setRow (Kept.refl [g] w') (Or.inl (by simp)) _) (by intro x hx; rw [List.mem_singleton] at hx; subst hx; exact hgb), rfl, setRow_heap _ _ _ _ _ _ hh⟩
      clear hK
      simp only [Act.put, List.setIfInBounds_toArray, List.set_cons_zero, List.set_cons_succ] at hk2 ⊢
      exact wp_store_row 51 (.tmp 16) (.tmp 83) rfl g #[.int .u64 (a : Int), .int .u64 (b : Int), .int .u64 (c : Int), .int .i64 z, .slice aS k cS, .int .i64 (U : Int)] rfl rfl 51 zSeg hh Tryz.size_seg rfl (by simp [Value.oneCell']) hk2)
        (by rintro u13 u14 u15 w' ⟨k0, aS, cS, B, C, rfl, r5⟩; exact Or.inl ⟨by rfl, fun W' hW' => by go_simp ; try rfl⟩) (by rintro u13 u14 u15 w' ⟨k0, aS, cS, B, C, rfl, r5⟩; exact Or.inl ⟨by rfl, fun W' hW' => by go_simp ; try rfl⟩) (by rintro u13 u14 u15 w' ⟨k0, aS, cS, B, C, rfl, r5⟩; exact Or.inl ⟨by rfl, fun W' hW' => by go_simp ; try rfl⟩) (by rintro u13 u14 u15 u19 w' ⟨k0, aS, cS, B, C, rfl, r5, g, rfl, hg, hh, hgb⟩; exact Or.inl ⟨by rfl, fun W' hW' => by go_simp ; try rfl⟩) (by rintro u13 u14 u15 u19 w' ⟨k0, aS, cS, B, C, rfl, r5, g, rfl, hg, hh, hgb⟩; exact Or.inl ⟨by rfl, fun W' hW' => by go_simp ; try rfl⟩) (by rintro u13 u14 u15 u19 w' ⟨k0, aS, cS, B, C, rfl, r5, g, rfl, hg, hh, hgb⟩; exact Or.inl ⟨by rfl, fun W' hW' => by go_simp ; try rfl⟩) (by rintro u13 u14 u15 u19 u20 w' ⟨k0, aS, cS, g, rfl, r5, rfl, hh⟩; exact Or.inl ⟨by rfl, fun W' hW' => by go_simp ; try rfl⟩)
        ?_
      rintro u13 u14 u15 u19 u20 w9 ⟨k9, aS, cS, g, rfl, r9, rfl, hh⟩
      simp only [Act.put, List.setIfInBounds_toArray, List.set_cons_zero, List.set_cons_succ, tup0, tup1]
      have HS9 := hide hh
      have HH9 := hide (k9.heap (unhide HH5) (by simp))
      have HK9 := hide ((unhide HK5).trans k9 (by simp))
      have hbeg := begins_any a b c z (.slice aS k cS) (.slice (some ⟨b0, o0, none⟩) D.length c2) (.slice (some ⟨bt, 0, none⟩) X.length ct) (D.take k) D X k w9 r9 ((unhide HB5).old k9) ⟨bt, ct, rfl, hct, fun j hj => k9.cell (unhide HJ5 j hj) (by simp)⟩ rfl (by omega) hXk (by rw [unhide HXL, unhide HDL]; have := unhide HLL; omega)
      rw [unhide HXU] at hbeg
      have HBG := hide hbeg
      clear hbeg hh k9 r9
      obtain ⟨x0, x1, x2, x3, x4, x5⟩ := scells (unhide HS9)
      obtain ⟨d0, d1, d2, d3⟩ := hcells (unhide HH9)
      go_wp2_with fail
      refine Calls.mono (unhide HBG) ?_
      rintro e wz ⟨rfl, kz⟩
      have HKz := hide ((unhide HK9).trans kz (by simp))
      clear kz x0 x1 x2 x3 x4 x5 d0 d1 d2 d3
      go_wp2
      go_ret
      exact ⟨rfl, (unhide HKz).below (Nat.le_refl _) (by simp)⟩
    · have hck' : ((chkB f es : Int) != 0) = true := by rw [bne_iff_ne]; omega
      go_wp2
      go_ret
      exact ⟨rfl, (unhide HK5).below (Nat.le_refl _) (by simp)⟩
  · rw [Bool.not_eq_true] at hok
    rw [hok]
    go_wp2
    go_ret
    exact ⟨rfl, (unhide HK2).below (Nat.le_refl _) (by simp)⟩
end Go.Proofs.YtckkalmhekfnhaaGreatDoor
namespace Go.Proofs.YtckkalmhekfnhaaGreatDoor
open Go.RowKit Go.BigFrame
set_option linter.unusedVariables false
set_option linter.unusedSimpArgs false

theorem wp_makeZ {o : Oper} {a : Act} {w : World} {K : Act → World → Prop} {Q : Exit → Act → World → Prop} (x y : Operand) (ho : o.op = .makeSlice 36 x y) (m : Nat) (hm : m ≤ 5000) (hx : a.eval x = .int .i64 (m : Int)) (hy : a.eval y = .int .i64 (m : Int))
    (h : ∀ w2 v, Kept [] w w2 → Rd w2 v (List.replicate m 0) → K (a.put o.dst v) w2) : o.wp Tryz.prog a w K Q := by
  have hmk := run_make_row' (P := Tryz.prog) 36 5 (.int .u8 0) 1 Tryz.underlying36 Tryz.info5 rfl .i64 .i64 m (by omega) (by omega)
  simp only [madeZeros] at hmk
  have hr := hmk w
  unfold Oper.wp execOp
  simp only [ho, hx, hy]
  go_simp
  exact h _ _ ((Kept.refl [] w).alloc _) (rd_row (List.replicate m 0) (heap_alloc_new _ _) (by simp [zeros]) (by intro x hx; have := (List.mem_replicate.1 hx).2; omega) m (by simp) (by omega))

set_option maxRecDepth 100000 in
set_option maxHeartbeats 8000000 in
theorem segmentTorn_walk (a b c : Nat) (z : Int) (v : Value) (bs : List (Nat × List En)) (cc mm : Int) (w : World) (ha : a < 18446744073709551616) (hb : b < 18446744073709551616) (hc : c < 18446744073709551616) (hz : -9223372036854775808 ≤ z ∧ z ≤ 9223372036854775807) (h : RdB w v bs) (hl : bs.length ≤ 1048576) (hes : ∀ t ∈ bs, t.2.length ≤ 1048576) (hcc : -9223372036854775808 ≤ cc ∧ cc ≤ 9223372036854775807) (hmm : -9223372036854775808 ≤ mm ∧ mm ≤ 9223372036854775807) (_ : True) :
    Calls Tryz.prog 7 #[.agg #[.int .u64 a, .int .u64 b, .int .u64 c, .int .i64 z], v, .int .i64 cc, .int .i64 mm] w fun e w' => e = .returned (.bool true) ∧ Below w.heap.size w w' := by
  have H := hide h
  have HES := hide hes
  obtain ⟨av, cv, rfl, _, _⟩ := h.shape
  have HBY := hide h.byN
  clear h hes
  have HH0 := hide (heap_alloc_new w (.cells #[.int .u64 (a : Int), .int .u64 (b : Int), .int .u64 (c : Int), .int .i64 z] 32))
  have HK0 := hide ((Kept.refl [] w).alloc (.cells #[.int .u64 (a : Int), .int .u64 (b : Int), .int .u64 (c : Int), .int .i64 z] 32))
  go_enter Tryz.func7, Tryz.ntmps7
  go_wp2_with fail
  obtain ⟨W0, hW0⟩ : ∃ W, w.alloc (.cells #[.int .u64 (a : Int), .int .u64 (b : Int), .int .u64 (c : Int), .int .i64 z] 32) = W := ⟨_, rfl⟩
  rw [hW0] at HH0 HK0 ⊢
  clear hW0
  refine Calls.mono (sawake_any W0) ?_
  rintro e w1 ⟨rfl, k1⟩
  have HH1 := hide (k1.heap (unhide HH0) (by simp))
  have HK1 := hide ((unhide HK0).trans k1 (by simp))
  clear k1 HH0 HK0
  obtain ⟨d0, d1, d2, d3⟩ := hcells (unhide HH1)
  go_wp2_with fail
  refine Calls.mono (laidS_any a b c z _ bs w1 ha hc hz ((unhide H).old (unhide HK1)) hl (unhide HES)) ?_
  rintro e w2 ⟨pv, Av, tv, rfl, hres, k2⟩
  have HH2 := hide (k2.heap (unhide HH1) (by simp))
  have HK2 := hide ((unhide HK1).trans k2 (by simp))
  clear k2 d0 d1 d2 d3 HH1 HK1
  obtain ⟨L, hL⟩ : ∃ L, bs.map (·.2) = L := ⟨_, rfl⟩
  have HLL := hide (by rw [← hL, List.length_map]; exact hl : L.length ≤ 1048576)
  rw [hL] at hres HBY ⊢
  clear hL
  by_cases hok : ldOk c z L = true
  · obtain ⟨r1, r2, r3⟩ := hres hok
    rw [hok]
    have hw : wideB z = true := by unfold ldOk at hok; rw [Bool.and_eq_true] at hok; exact hok.1
    have hk : okS c L = true := by unfold ldOk at hok; rw [Bool.and_eq_true] at hok; exact hok.2
    have HSH := hide (fun (cut m : Nat) (h1 : cut < 48) => seg_headless (a := a) (b := b) (c := c) (cut := cut) (m := m) (R := runS (numS c L)) ha hw h1)
    have HST := hide (fun (cut m k : Nat) (h1 : k ≤ (numS c L).length) (h2 : 48 + (runS ((numS c L).take k)).length ≤ cut) (h3 : k = (numS c L).length ∨ cut < 48 + (runS ((numS c L).take (k + 1))).length) => seg_torn (a := a) (b := b) (cut := cut) (m := m) ha hb hc hw hk (unhide HBY) h1 h2 h3)
    have HCA := hide (okS_mem c L hk)
    have HEN := hide (fun (k : Nat) (h1 : k < L.length) => endS_take k c L h1)
    have HRL := hide (runS_len_le c L hc hk)
    have HEL := hide (ehB_len (a := a) (b := b) (c := c) hw)
    have HZ := hide (by have : 1 ≤ z ∧ z ≤ 32 := by simpa [wideB] using hw
                        omega : (z.toNat : Int) = z)
    have HNL := hide (numS_len c L)
    obtain ⟨D, hD⟩ : ∃ D, numS c L = D := ⟨_, rfl⟩
    have hDL : D.length = L.length := by rw [← hD, numS_len]
    rw [hD] at r1 r2 r3 HRL
    simp only [hD] at HSH HST HEN HCA
    have HDL := hide hDL
    clear hD hDL hok hk hw hres HNL
    obtain ⟨E, hE⟩ : ∃ E, ehB a b c z = E := ⟨_, rfl⟩
    rw [hE] at r1 HEL
    simp only [hE] at HSH HST
    clear hE
    have HPL := hide (by rw [List.length_append, unhide HEL]; have := unhide HRL; have := unhide HLL; omega : (E ++ runS D).length ≤ 48 + 30018 * 1048576)
    obtain ⟨a1, n1, c1, rfl, hn1, _⟩ := id r1
    obtain ⟨a2, c2, rfl, _, _⟩ := r2.shape
    obtain ⟨X, hX⟩ : ∃ X, 48 :: atS 48 D = X := ⟨_, rfl⟩
    have HXL := hide (by rw [← hX, List.length_cons, atS_len] : X.length = D.length + 1)
    have HXK := hide (fun (k : Nat) (h1 : k ≤ D.length) => (by rw [← hX]; exact atS_at k 48 D h1 : X[k]? = some (48 + (runS (D.take k)).length)))
    rw [hX] at r3
    clear hX
    obtain ⟨bt, ct, rfl, hct, hcl⟩ := id r3
    have HR1 := hide r1
    have HR2 := hide r2
    have HR3 := hide r3
    clear r1 r2 r3 hcl
    obtain ⟨P, hP⟩ : ∃ P, E ++ runS D = P := ⟨_, rfl⟩
    have HP := hide hP
    have hP48 : 48 ≤ P.length := by rw [← hP, List.length_append, unhide HEL]; omega
    rw [hP] at HR1 HPL hn1
    clear hP
    subst hn1
    by_cases hk0 : cc < 0
    · go_wp2
      go_ret
      exact ⟨rfl, (unhide HK2).below (Nat.le_refl _) (by simp)⟩
    obtain ⟨cut, rfl⟩ : ∃ k : Nat, cc = (k : Int) := ⟨cc.toNat, by omega⟩
    by_cases hk1 : (P.length : Int) < (cut : Int)
    · go_wp2
      go_ret
      exact ⟨rfl, (unhide HK2).below (Nat.le_refl _) (by simp)⟩
    by_cases hm0 : mm < 0
    · go_wp2
      go_ret
      exact ⟨rfl, (unhide HK2).below (Nat.le_refl _) (by simp)⟩
    obtain ⟨m, rfl⟩ : ∃ k : Nat, mm = (k : Int) := ⟨mm.toNat, by omega⟩
    by_cases hm1 : (5000 : Int) < (m : Int)
    · go_wp2
      go_ret
      exact ⟨rfl, (unhide HK2).below (Nat.le_refl _) (by simp)⟩
    have hcut : cut ≤ P.length := by omega
    obtain ⟨T, hTT⟩ : ∃ T, P.take cut ++ List.replicate m 0 = T := ⟨_, rfl⟩
    have HTT := hide hTT
    have HTL := hide (by rw [← hTT, List.length_append, List.length_take, List.length_replicate]; have := unhide HPL; omega : T.length ≤ 100000000000)
    obtain ⟨hT, hhT⟩ : ∃ h, hdC T = h := ⟨_, rfl⟩
    obtain ⟨UT, hUT⟩ : ∃ h, sgU T = h := ⟨_, rfl⟩
    obtain ⟨ET, hET⟩ : ∃ h, sgE T = h := ⟨_, rfl⟩
    obtain ⟨BT, hBT⟩ : ∃ h, sgB T = h := ⟨_, rfl⟩
    have HhT := hide hhT
    have HUT := hide hUT
    have HET := hide hET
    have HBT := hide hBT
    clear hTT hhT hUT hET hBT
    obtain ⟨_, _, _, ep, _, hcp, ⟨hcm, _⟩, _, _, hclp⟩ := id (unhide HR1)
    cases ep
    obtain ⟨pb, po, eP, _⟩ := hclp (by omega)
    subst eP
    clear hclp
    have HT5 := hide (by have h9 := Rd.cutN (unhide HR1) 0 cut (by omega) hcut; simpa using h9 : Rd w2 (.slice (some ⟨pb, po, none⟩) cut c1) (P.take cut))
    go_upto_region 6 with fail
    refine wp_to13 (by kernel_rfl) (by kernel_rfl) (by kernel_rfl) (by kernel_rfl) (by kernel_rfl) (by kernel_rfl) (by kernel_rfl) (by kernel_rfl) (by kernel_rfl) (by kernel_rfl) (by kernel_rfl) (by kernel_rfl) (by kernel_rfl) (by kernel_rfl) (by kernel_rfl) (by kernel_rfl) (by kernel_rfl) (by kernel_rfl) (by kernel_rfl) (by kernel_rfl) (by kernel_rfl) (by kernel_rfl) (by kernel_rfl) (by kernel_rfl) (by kernel_rfl) (by kernel_rfl) (by kernel_rfl) (by kernel_rfl) (by kernel_rfl) (by kernel_rfl) (by kernel_rfl) (by kernel_rfl) (by kernel_rfl) rfl rfl rfl rfl rfl (by simp) (by simp) (by simp) (by simp) (by simp) (by simp)
      (.slice (some ⟨pb, po, none⟩) P.length c1) (.int .i64 (cut : Int)) (.slice (some ⟨pb, po, none⟩) cut c1) (.int .i64 (m : Int)) _ _ _ _
      (fun w' => True)
      (fun w' => Kept [] w2 w')
      (fun u4 w' => Kept [] w2 w' ∧ Rd w' u4 (List.replicate m 0))
      (fun u10 w' => Kept [] w2 w' ∧ Als w2 u10 zSeg w')
      (fun u4 u5 w' => Kept [] w2 w' ∧ Rd w' u5 T)
      (fun u4 u10 w' => Kept [] w2 w' ∧ Rd w' u4 (List.replicate m 0) ∧ Als w2 u10 zSeg w')
      (fun u4 u5 u6 w' => Kept [] w2 w' ∧ ∃ aS cS B C, u6 = .tuple #[.agg #[.int .u64 (hT.a : Int), .int .u64 (hT.b : Int), .int .u64 (hT.c : Int), .int .i64 (hT.d : Int), .slice aS BT.length cS, .int .i64 (UT : Int)], .int .i64 (ET : Int)] ∧ RdS w' (.slice aS BT.length cS) BT B C)
      (fun u4 u5 u10 w' => Kept [] w2 w' ∧ Rd w' u5 T ∧ Als w2 u10 zSeg w')
      (fun u4 u5 u6 u10 w' => Kept [] w2 w' ∧ ∃ aS cS B C, u6 = .tuple #[.agg #[.int .u64 (hT.a : Int), .int .u64 (hT.b : Int), .int .u64 (hT.c : Int), .int .i64 (hT.d : Int), .slice aS BT.length cS, .int .i64 (UT : Int)], .int .i64 (ET : Int)] ∧ RdS w' (.slice aS BT.length cS) BT B C ∧ ∃ g, u10 = .pointer (some ⟨g, 0, none⟩) ∧ w2.heap.size ≤ g ∧ w'.heap[g]? = some (.cells zSeg 51 (0, 0)) ∧ (g < B ∨ C ≤ g))
      (fun u4 u5 u6 u10 u11 w' => Kept [] w2 w' ∧ ∃ aS cS g, u6 = .tuple #[.agg #[.int .u64 (hT.a : Int), .int .u64 (hT.b : Int), .int .u64 (hT.c : Int), .int .i64 (hT.d : Int), .slice aS BT.length cS, .int .i64 (UT : Int)], .int .i64 (ET : Int)] ∧ RdB w' (.slice aS BT.length cS) BT ∧ u10 = .pointer (some ⟨g, 0, none⟩) ∧ w'.heap[g]? = some (.cells #[.int .u64 (hT.a : Int), .int .u64 (hT.b : Int), .int .u64 (hT.c : Int), .int .i64 (hT.d : Int), .slice aS BT.length cS, .int .i64 (UT : Int)] 51 (0, 0)))
      (fun u4 u5 u6 => u6) (fun u4 u5 u6 => tup0 u6) (fun u4 u5 u6 => tup1 u6) (fun u4 u5 u6 u10 u11 => tup1 u6)
      (by simp only [Act.put, List.setIfInBounds_toArray, List.set_cons_zero, List.set_cons_succ]; rfl) (by exact Or.inl ⟨by rfl, fun W' hW' => by go_simp⟩) (by simp only [Act.put, List.setIfInBounds_toArray, List.set_cons_zero, List.set_cons_succ]; rfl) (by exact Or.inl ⟨by rfl, fun W' hW' => by go_simp⟩) (by simp only [Act.put, List.setIfInBounds_toArray, List.set_cons_zero, List.set_cons_succ]; rfl) (by exact Or.inl ⟨by rfl, fun W' hW' => by go_simp; intro h9; exact absurd h9 (by omega)⟩) (by simp only [Act.put, List.setIfInBounds_toArray, List.set_cons_zero, List.set_cons_succ]; rfl) (by exact Or.inl ⟨by rfl, fun W' hW' => by go_simp⟩)
      ((Kept.refl [] w2).drew)
      ⟨fun _ _ => trivial, fun _ _ _ => trivial, fun _ _ _ => trivial, fun _ _ _ _ => trivial, fun _ _ _ _ => trivial, fun _ _ _ _ _ => trivial, fun _ _ _ _ _ => trivial, fun _ _ _ _ _ _ => trivial, fun _ _ _ _ _ _ _ => trivial⟩
      (by
      rintro w' k0 K hK
      exact wp_makeZ _ _ rfl m (by omega) rfl rfl (fun w3 v9 k9 r9 => hK _ _ ⟨k0.trans k9 (by simp), r9⟩)) (by
      rintro w' k0 K hK
      exact wp_allocseg rfl (hK _ _ ⟨k0.alloc _, als_new k0⟩)) (by
      rintro u4 w' ⟨k0, r13⟩ K hK
      refine wp_callN rfl Tryz.call27 [.slice (some ⟨pb, po, none⟩) cut c1, u4] rfl (join_any _ _ (P.take cut) (List.replicate m 0) w' ((unhide HT5).old k0 (by simp)) r13 (by rw [List.length_take, List.length_replicate]; have := unhide HPL; omega)) ?_
      rintro e w3 ⟨v9, rfl, r9, k9, _⟩
      rw [unhide HTT] at r9
      exact ⟨_, rfl, hK _ _ ⟨k0.trans k9 (by simp), r9⟩⟩) (by
      rintro u4 w' ⟨k0, r13⟩ K hK
      exact wp_allocseg rfl (hK _ _ ⟨k0.alloc _, r13.old ((Kept.refl [] w').alloc _) (by simp), als_new k0⟩)) (by
      rintro u10 w' ⟨k0, a0⟩ K hK
      exact wp_makeZ _ _ rfl m (by omega) rfl rfl (fun w3 v9 k9 r9 => hK _ _ ⟨k0.trans k9 (by simp), r9, a0.pass k9⟩)) (by
      rintro u4 u5 w' ⟨k0, r14⟩ K hK
      refine wp_callN rfl Tryz.call21 [u5] rfl (read_any _ _ w' r14 (unhide HTL)) ?_
      rintro e w3 ⟨v9, rfl, r9, k9, st9⟩
      rw [unhide HBT] at r9 st9
      obtain ⟨a9, c9, rfl, _, _⟩ := r9.shape
      refine ⟨_, rfl, hK _ _ ?_⟩
      rw [unhide HhT, unhide HUT, unhide HET]
      exact ⟨k0.trans k9 (by simp), a9, c9, _, _, rfl, RdS.mk st9⟩) (by
      rintro u4 u5 w' ⟨k0, r14⟩ K hK
      exact wp_allocseg rfl (hK _ _ ⟨k0.alloc _, r14.old ((Kept.refl [] w').alloc _) (by simp), als_new k0⟩)) (by
      rintro u4 u10 w' ⟨k0, r13, a0⟩ K hK
      refine wp_callN rfl Tryz.call27 [.slice (some ⟨pb, po, none⟩) cut c1, u4] rfl (join_any _ _ (P.take cut) (List.replicate m 0) w' ((unhide HT5).old k0 (by simp)) r13 (by rw [List.length_take, List.length_replicate]; have := unhide HPL; omega)) ?_
      rintro e w3 ⟨v9, rfl, r9, k9, _⟩
      rw [unhide HTT] at r9
      exact ⟨_, rfl, hK _ _ ⟨k0.trans k9 (by simp), r9, a0.pass k9⟩⟩) (by
      rintro u4 u5 u6 w' ⟨k0, aS, cS, B, C, rfl, r5⟩ K hK
      exact wp_allocseg rfl (hK _ _ ⟨k0.alloc _, aS, cS, B, C, rfl, r5.pass ((Kept.refl [] w').alloc _), w'.heap.size, rfl, k0.size, heap_alloc_new _ _, Or.inr r5.1⟩)) (by
      rintro u4 u5 u10 w' ⟨k0, r14, g, rfl, hg, hh⟩ K hK
      refine wp_callN rfl Tryz.call21 [u5] rfl (read_any _ _ w' r14 (unhide HTL)) ?_
      rintro e w3 ⟨v9, rfl, r9, k9, st9⟩
      rw [unhide HBT] at r9 st9
      obtain ⟨a9, c9, rfl, _, _⟩ := r9.shape
      refine ⟨_, rfl, hK _ _ ?_⟩
      rw [unhide HhT, unhide HUT, unhide HET]
      exact ⟨k0.trans k9 (by simp), a9, c9, _, _, rfl, RdS.mk st9, g, rfl, hg, k9.heap hh (by simp), Or.inl (lt_of_block hh)⟩)
      (by
      rintro u4 u5 u6 u10 w' ⟨k0, aS, cS, B, C, rfl, r5, g, rfl, hg, hh, hgb⟩ K hK
      have hk2 := hK undef _ ⟨Kept.setRow k0 (Or.inr hg) #[.int .u64 (hT.a : Int), .int .u64 (hT.b : Int), .int .u64 (hT.c : Int), .int .i64 (hT.d : Int), .slice aS BT.length cS, .int .i64 (UT : Int)], aS, cS, g, rfl, r5.2 [g] _ (Kept.setRow (Kept.refl [g] w') (Or.inl (by simp)) _) (by intro x hx; rw [List.mem_singleton] at hx; subst hx; exact hgb), rfl, setRow_heap _ _ _ _ _ _ hh⟩
      clear hK
      simp only [Act.put, List.setIfInBounds_toArray, List.set_cons_zero, List.set_cons_succ] at hk2 ⊢
      exact wp_store_row 51 (.tmp 13) (.tmp 54) rfl g #[.int .u64 (hT.a : Int), .int .u64 (hT.b : Int), .int .u64 (hT.c : Int), .int .i64 (hT.d : Int), .slice aS BT.length cS, .int .i64 (UT : Int)] rfl rfl 51 zSeg hh Tryz.size_seg rfl (by simp [Value.oneCell']) hk2)
      (by rintro u4 u5 u6 w' ⟨k0, aS, cS, B, C, rfl, r5⟩; exact Or.inl ⟨by rfl, fun W' hW' => by go_simp; try rfl⟩) (by rintro u4 u5 u6 w' ⟨k0, aS, cS, B, C, rfl, r5⟩; exact Or.inl ⟨by rfl, fun W' hW' => by go_simp; try rfl⟩) (by rintro u4 u5 u6 w' ⟨k0, aS, cS, B, C, rfl, r5⟩; exact Or.inl ⟨by rfl, fun W' hW' => by go_simp; try rfl⟩) (by rintro u4 u5 u6 u10 w' ⟨k0, aS, cS, B, C, rfl, r5, g, rfl, hg, hh, hgb⟩; exact Or.inl ⟨by rfl, fun W' hW' => by go_simp; try rfl⟩) (by rintro u4 u5 u6 u10 w' ⟨k0, aS, cS, B, C, rfl, r5, g, rfl, hg, hh, hgb⟩; exact Or.inl ⟨by rfl, fun W' hW' => by go_simp; try rfl⟩) (by rintro u4 u5 u6 u10 w' ⟨k0, aS, cS, B, C, rfl, r5, g, rfl, hg, hh, hgb⟩; exact Or.inl ⟨by rfl, fun W' hW' => by go_simp; try rfl⟩) (by rintro u4 u5 u6 u10 u11 w' ⟨k0, aS, cS, g, rfl, r5, rfl, hh⟩; exact Or.inl ⟨by rfl, fun W' hW' => by go_simp; try rfl⟩)
      ?_
    rintro u4 u5 u6 u10 u11 w9 ⟨k9, aS, cS, g, rfl, r9, rfl, hh⟩
    simp only [Act.put, List.setIfInBounds_toArray, List.set_cons_zero, List.set_cons_succ, tup0, tup1]
    have HS9 := hide hh
    have HR9 := hide r9
    have HQ9 := hide k9
    have HH9 := hide (k9.heap (unhide HH2) (by simp))
    have HK9 := hide ((unhide HK2).trans k9 (by simp))
    have HJ9 := hide (fun (j : Nat) (hj : j < X.length) => k9.cell ((by obtain ⟨b9, c9, e9, _, h9⟩ := unhide HR3; cases e9; exact h9 j hj) : w2.cell? ⟨bt, j, none⟩ = some (.int .i64 (X[j] : Int))) (by simp))
    clear hh k9 r9
    have hX0 : 0 < X.length := by rw [unhide HXL]; omega
    have j0 := unhide HJ9 0 hX0
    have hX48 : X[0] = 48 := by have h9 := unhide HXK 0 (by omega); rw [List.getElem?_eq_getElem hX0] at h9; simpa [runS] using h9
    rw [hX48] at j0
    rw [show ((48 : Nat) : Int) = 48 from rfl] at j0
    clear hX48
    by_cases hc48 : cut < 48
    · obtain ⟨t1, t2, t3, t4⟩ := unhide HSH cut m hc48
      rw [unhide HP, unhide HTT] at t1 t2 t3 t4
      rw [unhide HhT] at t1
      rw [unhide HET] at t2
      rw [unhide HBT] at t3
      rw [unhide HUT] at t4
      subst t1 t2 t3 t4
      have hc1 : (cut : Int) < 48 := by omega
      obtain ⟨x0, x1, x2, x3, x4, x5⟩ := scells (unhide HS9)
      go_wp2
      go_ret
      exact ⟨rfl, (unhide HK9).below (Nat.le_refl _) (by simp)⟩
    · have hc1 : ¬ (cut : Int) < 48 := by omega
      go_wp2_with fail
      clear j0
      go_loopw [15] (fun t15 wr => ∃ k : Nat, t15 = .int .i64 (k : Int) ∧ k ≤ D.length ∧ Hid (48 + (runS (D.take k)).length ≤ cut) ∧ wr = w9) (fun t _ => D.length - (intOf t).toNat)
      case atStart => exact ⟨0, rfl, Nat.zero_le _, hide (by simp [runS]; omega), rfl⟩
      case round =>
        obtain ⟨k, rfl, hk, HC, rfl⟩ := hrel
        by_cases hkD : k < D.length
        · have hlt : (k : Int) < (D.length : Int) := by omega
          have hk1X : k + 1 < X.length := by rw [unhide HXL]; omega
          obtain ⟨V, hV⟩ : ∃ V, 48 + (runS (D.take (k + 1))).length = V := ⟨_, rfl⟩
          have hXV : X[k + 1] = V := by have h9 := unhide HXK (k + 1) (by omega); rw [hV, List.getElem?_eq_getElem hk1X] at h9; exact Option.some.inj h9
          have j1 := unhide HJ9 (k + 1) hk1X
          rw [hXV] at j1
          have HV := hide hV
          clear hXV hV
          have hks : (k : Int) + 1 < (X.length : Int) := by omega
          by_cases hvc : V ≤ cut
          · have hvi : (V : Int) ≤ (cut : Int) := by omega
            go_wp2
            go_roundw
            case rel => exact ⟨k + 1, by simp, by omega, hide (by rw [unhide HV]; exact hvc), trivial⟩
            case measure => simp [intOf]; omega
          · have hvi : ¬ (V : Int) ≤ (cut : Int) := by omega
            have HTK := hide (by rw [List.length_take]; omega : (D.take k).length = k)
            obtain ⟨t1, t2, t3, t4⟩ := unhide HST cut m k hk (unhide HC) (Or.inr (by rw [unhide HV]; omega))
            rw [unhide HP, unhide HTT] at t1 t2 t3 t4
            rw [unhide HhT] at t1
            rw [unhide HET] at t2
            rw [unhide HBT] at t3
            rw [unhide HUT] at t4
            have HS8 := hide (unhide HS9)
            rw [t1, t3, t4, unhide HTK] at HS8
            simp only [unhide HZ] at HS8
            have HR8 := hide (unhide HR9)
            rw [t3, unhide HTK] at HR8
            have hE0 : ((ET : Int) == 0) = true := by rw [t2]; rfl
            clear t1 t2 t3 t4
            have hXk : k < X.length := by rw [unhide HXL]; omega
            have hXU : X[k] = 48 + (runS (D.take k)).length := by have h9 := unhide HXK k hk; rw [List.getElem?_eq_getElem hXk] at h9; exact Option.some.inj h9
            have hbeg := begins_any a b c z (.slice aS k cS) (.slice a2 D.length c2) (.slice (some ⟨bt, 0, none⟩) X.length ct) (D.take k) D X k _ (unhide HR8) ((unhide HR2).old (unhide HQ9)) ⟨bt, ct, rfl, hct, fun j hj => unhide HJ9 j hj⟩ rfl hk hXk (by rw [unhide HXL, unhide HDL]; have := unhide HLL; omega)
            rw [hXU] at hbeg
            have HBG := hide hbeg
            clear hbeg hXU
            obtain ⟨x0, x1, x2, x3, x4, x5⟩ := scells (unhide HS8)
            obtain ⟨d0, d1, d2, d3⟩ := hcells (unhide HH9)
            go_wp2_with fail
            refine Calls.mono (unhide HBG) ?_
            rintro e wz ⟨rfl, kz⟩
            have HKz := hide ((unhide HK9).trans kz (by simp))
            clear kz x0 x1 x2 x3 x4 x5 d0 d1 d2 d3
            go_wp2
            go_ret
            exact ⟨rfl, (unhide HKz).below (Nat.le_refl _) (by simp)⟩
        · have hlt : ¬ (k : Int) < (D.length : Int) := by omega
          have HTK := hide (by rw [List.length_take]; omega : (D.take k).length = k)
          obtain ⟨t1, t2, t3, t4⟩ := unhide HST cut m k hk (unhide HC) (Or.inl (by omega))
          rw [unhide HP, unhide HTT] at t1 t2 t3 t4
          rw [unhide HhT] at t1
          rw [unhide HET] at t2
          rw [unhide HBT] at t3
          rw [unhide HUT] at t4
          have HS8 := hide (unhide HS9)
          rw [t1, t3, t4, unhide HTK] at HS8
          simp only [unhide HZ] at HS8
          have HR8 := hide (unhide HR9)
          rw [t3, unhide HTK] at HR8
          have hE0 : ((ET : Int) == 0) = true := by rw [t2]; rfl
          clear t1 t2 t3 t4
          have hXk : k < X.length := by rw [unhide HXL]; omega
          have hXU : X[k] = 48 + (runS (D.take k)).length := by have h9 := unhide HXK k hk; rw [List.getElem?_eq_getElem hXk] at h9; exact Option.some.inj h9
          have hbeg := begins_any a b c z (.slice aS k cS) (.slice a2 D.length c2) (.slice (some ⟨bt, 0, none⟩) X.length ct) (D.take k) D X k _ (unhide HR8) ((unhide HR2).old (unhide HQ9)) ⟨bt, ct, rfl, hct, fun j hj => unhide HJ9 j hj⟩ rfl hk hXk (by rw [unhide HXL, unhide HDL]; have := unhide HLL; omega)
          rw [hXU] at hbeg
          have HBG := hide hbeg
          clear hbeg hXU
          obtain ⟨x0, x1, x2, x3, x4, x5⟩ := scells (unhide HS8)
          obtain ⟨d0, d1, d2, d3⟩ := hcells (unhide HH9)
          go_wp2_with fail
          refine Calls.mono (unhide HBG) ?_
          rintro e wz ⟨rfl, kz⟩
          have HKz := hide ((unhide HK9).trans kz (by simp))
          clear kz x0 x1 x2 x3 x4 x5 d0 d1 d2 d3
          go_wp2
          go_ret
          exact ⟨rfl, (unhide HKz).below (Nat.le_refl _) (by simp)⟩
  · rw [Bool.not_eq_true] at hok
    rw [hok]
    go_wp2
    go_ret
    exact ⟨rfl, (unhide HK2).below (Nat.le_refl _) (by simp)⟩
end Go.Proofs.YtckkalmhekfnhaaGreatDoor
namespace Go.Proofs.YtckkalmhekfnhaaGreatDoor
open Go.ChangeShapes Go.WideShapes Go.ChangeAt Go.RowKit Go.Deep
set_option linter.unusedVariables false
set_option linter.unusedSimpArgs false

theorem own : ownKnob Tryz.prog.godebug = none := by kernel_rfl
theorem laidOut : laidOutB Tryz.prog = true := by kernel_rfl
theorem byte_of_wf {x : Int} (h : (Lit.int .u8 x).wf = true) : 0 ≤ x ∧ x < 256 := by
  simp [Lit.wf, IntKind.min, IntKind.max, IntKind.signed, IntKind.bits] at h
  exact ⟨by omega, by omega⟩
theorem int_of_wf {x : Int} (h : (Lit.int .i64 x).wf = true) : -9223372036854775808 ≤ x ∧ x ≤ 9223372036854775807 := by
  simp [Lit.wf, IntKind.min, IntKind.max, IntKind.signed, IntKind.bits] at h
  exact ⟨by omega, by omega⟩

theorem bulk_one {H : Type} (d : DataW H) : 1 ≤ Rows.uptoBulk d := by
  cases d with
  | lit l => cases l <;> simp [Rows.uptoBulk]
  | nil => simp [Rows.uptoBulk]
  | ptr d => simp [Rows.uptoBulk]
  | slice elems spare => simp [Rows.uptoBulk]
  | agg parts => simp [Rows.uptoBulk]
  | iface t d => simp [Rows.uptoBulk]
  | map entries => simp [Rows.uptoBulk]
  | held h => simp [Rows.uptoBulk]
theorem bulk_len {H : Type} (l : List (DataW H)) : l.length ≤ Rows.uptoBulkAll l := by
  induction l with
  | nil => simp [Rows.uptoBulkAll]
  | cons x r ih => have := bulk_one x; simp only [Rows.uptoBulkAll, List.length_cons]; omega
theorem Tryz.bytes5 : Tryz.prog.bytesOf 5 = 1 := by kernel_rfl

section
variable {H : Type} {enc : TypeId × Value → H} {W : World}

/-- Bytes that came in, as the walks want them, of whatever length. -/
theorem open_bytes {fuel : Nat} {cs : List Value} {x : DataW H × List MemPlace} (h : DataW.trod enc Tryz.prog W 0 (fun _ => true) true fuel 36 cs = some x) :
    ∃ v bs, cs = [v] ∧ (bs.length ≤ 140737488355328 → Rd W v bs) ∧ ((bs = [] ∧ x.1 = .nil) ∨ ∃ elems spare, x.1 = .slice elems spare ∧ elems.length = bs.length) := by
  rcases open_ints Tryz.underlying36 Tryz.underlying5 (by kernel_rfl) h with ⟨rfl, rfl⟩ | ⟨a, len, cap, zs, rfl, _, hl, hm, hz, rfl, hcell, hwz⟩
  · exact ⟨_, [], rfl, fun _ => Rd.nil W, .inl ⟨rfl, rfl⟩⟩
  · have h2 : (lits (H := H) .u8 (zs.take len)).length = len := by simp only [lits, List.length_map, List.length_take]; simp at hz; omega
    have hbl : ((zs.take len).map Int.toNat).length = len := by simp at hz; simp; omega
    refine ⟨_, (zs.take len).map Int.toNat, rfl, fun hB => ⟨_, _, _, rfl, hbl, hl, ⟨by unfold maxLen at hm; omega, by omega⟩, by simp, ?_, ?_⟩, .inr ⟨_, _, rfl, by rw [h2, hbl]⟩⟩
    · intro y hy
      obtain ⟨z, hz1, rfl⟩ := List.mem_map.1 hy
      have := byte_of_wf (hwz z (List.mem_of_mem_take hz1)); omega
    · intro hp
      simp at hz
      have hc0 := hcell 0 (by omega)
      obtain ⟨b, off, spot⟩ := a
      have hspot : spot = none := by simpa [Addr.add] using World.cell?_spot hc0
      subst hspot
      refine ⟨b, off, rfl, fun i hi => ?_⟩
      have hc := hcell i (by omega)
      have hzi : i < zs.length := by omega
      rw [Addr.add_mid] at hc
      rw [hc]
      have hw := byte_of_wf (hwz (zs[i]) (List.getElem_mem hzi))
      simp only [List.getD_eq_getElem?_getD, List.getElem?_eq_getElem hzi, Option.getD_some, List.getElem?_map, List.getElem?_take, hi, if_true, Option.map_some]
      simp [u8]; omega
/-- Their length, by the reach. -/
theorem reach_bytes {ts : List TypeId} {ds : List (DataW H)} (h : (DataW.weightsEach Tryz.prog ts ds).all (· ≤ reachBytes) = true) {j : Nat} (ht : ts[j]? = some 36) {d : DataW H} (hd : ds[j]? = some d) {bs : List Nat}
    (hx : (bs = [] ∧ d = .nil) ∨ ∃ elems spare, d = .slice elems spare ∧ elems.length = bs.length) : bs.length ≤ 140737488351232 := by
  rcases hx with ⟨rfl, _⟩ | ⟨elems, spare, rfl, he⟩
  · simp
  · have := sized_slice h ht hd Tryz.underlying36
    rw [Tryz.bytes5, Nat.mul_one] at this
    unfold reachBytes at this
    omega
/-- Their length, by the bulk. -/
theorem bulk_bytes {d : DataW H} {bs : List Nat} (hx : (bs = [] ∧ d = .nil) ∨ ∃ elems spare, d = .slice elems spare ∧ elems.length = bs.length) : bs.length + 1 ≤ Rows.uptoBulk d := by
  rcases hx with ⟨rfl, rfl⟩ | ⟨elems, spare, rfl, he⟩
  · simp [Rows.uptoBulk]
  · have := bulk_len elems
    simp only [Rows.uptoBulk]; omega
end
end Go.Proofs.YtckkalmhekfnhaaGreatDoor
namespace Go.Proofs.YtckkalmhekfnhaaGreatDoor
open Go.ChangeShapes Go.WideShapes Go.ChangeAt Go.RowKit Go.Deep
set_option linter.unusedVariables false
set_option linter.unusedSimpArgs false
section
variable {H : Type} {enc : TypeId × Value → H} {W : World}

theorem n_bulk_part {d : DataW H} {l : List (DataW H)} (h : d ∈ l) : Rows.uptoBulk d ≤ Rows.uptoBulkAll l := by
  induction l with
  | nil => simp at h
  | cons a l ih =>
    simp only [Rows.uptoBulkAll]
    rcases List.mem_cons.1 h with rfl | h
    · omega
    · have := ih h; omega
theorem n_bulk_len (D : Nat → DataW H) (l : List Nat) (h : ∀ i ∈ l, 1 ≤ Rows.uptoBulk (D i)) : l.length ≤ Rows.uptoBulkAll (l.map D) := by
  induction l with
  | nil => simp
  | cons a l ih =>
    have h1 := h a (by simp)
    have h2 := ih (fun i hi => h i (by simp [hi]))
    simp only [List.map_cons, Rows.uptoBulkAll, List.length_cons]
    omega
theorem n_split (cs : List Value) (a n : Nat) : cs.drop a = (cs.drop a).take n ++ cs.drop (a + n) := by
  rw [← List.drop_drop, List.take_append_drop]
/-- An entry that came in. -/
theorem open_entry {fuel : Nat} {cs : List Value} {x : DataW H × List MemPlace} (h : DataW.trod enc Tryz.prog W 0 (fun _ => true) true fuel 71 cs = some x) (hB : Rows.uptoBulk x.1 ≤ 1048576) :
    ∃ (e : En) (kv vv : Value), cs = (enC e kv vv).toList ∧ OkE W e kv vv ∧ e.key.length + e.val.length + 2 ≤ Rows.uptoBulk x.1 := by
  obtain ⟨xs, n, _, rfl, hl, hlen, hf⟩ := DataW.trod_struct Tryz.underlying71 h
  rw [show Tryz.prog.cellsOf 71 = 3 from by kernel_rfl] at hl
  match xs, hlen with
  | [y0, y1, y2], _ =>
    have ci : Tryz.prog.cellsOf 5 = 1 := by kernel_rfl
    have cb : Tryz.prog.cellsOf 36 = 1 := by kernel_rfl
    have f0 : DataW.trod enc Tryz.prog W 0 (fun _ => true) true n 5 ((cs.drop 0).take 1) = some y0 := by rw [← ci]; exact hf 0 _ rfl
    have f1 : DataW.trod enc Tryz.prog W 0 (fun _ => true) true n 36 ((cs.drop 1).take 1) = some y1 := by have this : DataW.trod enc Tryz.prog W 0 (fun _ => true) true n 36 ((cs.drop 1).take (Tryz.prog.cellsOf 36)) = some y1 := hf 1 _ rfl; rw [cb] at this; exact this
    have f2 : DataW.trod enc Tryz.prog W 0 (fun _ => true) true n 36 ((cs.drop 2).take 1) = some y2 := by have this : DataW.trod enc Tryz.prog W 0 (fun _ => true) true n 36 ((cs.drop 2).take (Tryz.prog.cellsOf 36)) = some y2 := hf 2 _ rfl; rw [cb] at this; exact this
    simp only [List.map_cons, List.map_nil, Rows.uptoBulk, Rows.uptoBulkAll] at hB ⊢
    obtain ⟨k, e0, _, w0⟩ := DataW.trod_int Tryz.underlying5 f0
    obtain ⟨kv, key, e1, hr1, hb1⟩ := open_bytes f1
    obtain ⟨vv, val, e2, hr2, hb2⟩ := open_bytes f2
    have g1 := bulk_bytes hb1
    have g2 := bulk_bytes hb2
    have hk := byte_of_wf w0
    refine ⟨⟨k.toNat, key, val⟩, kv, vv, ?_, ⟨by show k.toNat < 256; omega, hr1 (by omega), hr2 (by omega)⟩, by show key.length + val.length + 2 ≤ _; omega⟩
    have hd : cs.drop 3 = [] := List.drop_eq_nil_of_le (by omega)
    have this := n_split cs 0 1
    rw [e0, n_split cs 1 1, e1, n_split cs 2 1, e2, hd, List.drop_zero] at this
    rw [this]
    simp [enC, Int.toNat_of_nonneg hk.1]
instance : Inhabited En := ⟨⟨0, [], []⟩⟩
/-- Entries that came in. -/
theorem open_entries {fuel : Nat} {cs : List Value} {x : DataW H × List MemPlace} (h : DataW.trod enc Tryz.prog W 0 (fun _ => true) true fuel 33 cs = some x) (hB : Rows.uptoBulk x.1 ≤ 1048576) :
    ∃ v es, cs = [v] ∧ RdN W v es ∧ es.length ≤ 1048576 := by
  rcases open_slice Tryz.underlying33 h with ⟨rfl, rfl⟩ | ⟨a, len, cap, m, n, D, Pl, rfl, _, hl, hm, hmm, rfl, hx⟩
  · exact ⟨_, [], rfl, RdN.nil W, by simp⟩
  · have hC : Tryz.prog.cellsOf 71 = 3 := by kernel_rfl
    rw [hC] at hx
    simp only [if_true] at hmm
    simp only [Rows.uptoBulk] at hB
    obtain ⟨f, hf⟩ := choose_lt (α := En × Value × Value) (n := len) (p := fun i o => ((∀ j v, (enC o.1 o.2.1 o.2.2).toList[j]? = some v → W.cell? ((a.add (i * 3)).add j) = some v) ∧ OkE W o.1 o.2.1 o.2.2) ∧ 1 ≤ Rows.uptoBulk (D i)) (by
      intro i hi
      obtain ⟨cs', h1, h2⟩ := hx i (by omega)
      have hDi : Rows.uptoBulk (D i) ≤ Rows.uptoBulkAll ((List.range len).map D) := n_bulk_part (List.mem_map.2 ⟨i, List.mem_range.2 hi, rfl⟩)
      obtain ⟨o, kv, vv, rfl, ho, hbb⟩ := open_entry h2 (by simp only; omega)
      obtain ⟨_, hlen, hc⟩ := World.cells?_some h1
      refine ⟨(o, kv, vv), ⟨fun j v hv => ?_, ho⟩, by simp only at hbb; omega⟩
      have hj := (List.getElem?_eq_some_iff.1 hv).1
      have := hc j hj
      rw [this, ← hv, List.getElem?_eq_getElem hj])
    refine ⟨_, (List.range len).map fun i => (f i).1, rfl, ⟨some a, len, cap, fun i => (f i).2.1, fun i => (f i).2.2, rfl, by simp, hl, by unfold maxLen at hm; omega, ?_, ?_⟩, ?_⟩
    · intro i hi
      have hi' : i < len := by simpa using hi
      have := (hf i hi').1.2
      simpa using this
    · intro hp
      obtain ⟨b, off, spot⟩ := a
      have h0 := (hf 0 hp).1
      have hc0 := h0.1 0 _ rfl
      have hspot : spot = none := by simpa [Addr.add] using World.cell?_spot hc0
      subst hspot
      refine ⟨b, off, rfl, fun i hi j v hv => ?_⟩
      have hi' : i < len := by simpa using hi
      have e9 : ((List.range len).map fun i => (f i).1)[i] = (f i).1 := by simp
      rw [e9] at hv
      have := (hf i hi').1.1 j v hv
      rw [Addr.add_mid, Addr.add_mid] at this
      exact this
    · have := n_bulk_len D (List.range len) (fun i hi => (hf i (List.mem_range.1 hi)).2)
      simp only [List.length_map, List.length_range] at this ⊢
      omega
/-- A batch that came in. -/
theorem open_batch {fuel : Nat} {cs : List Value} {x : DataW H × List MemPlace} (h : DataW.trod enc Tryz.prog W 0 (fun _ => true) true fuel 35 cs = some x) (hB : Rows.uptoBulk x.1 ≤ 1048576) :
    ∃ (f : Nat) (v : Value) (es : List En), cs = [.int .u64 (f : Int), v] ∧ f < 18446744073709551616 ∧ RdN W v es ∧ es.length ≤ 1048576 := by
  obtain ⟨xs, n, _, rfl, hl, hlen, hf⟩ := DataW.trod_struct Tryz.underlying35 h
  rw [show Tryz.prog.cellsOf 35 = 2 from by kernel_rfl] at hl
  match xs, hlen with
  | [y0, y1], _ =>
    have ci : Tryz.prog.cellsOf 22 = 1 := by kernel_rfl
    have cb : Tryz.prog.cellsOf 33 = 1 := by kernel_rfl
    have f0 : DataW.trod enc Tryz.prog W 0 (fun _ => true) true n 22 ((cs.drop 0).take 1) = some y0 := by rw [← ci]; exact hf 0 _ rfl
    have f1 : DataW.trod enc Tryz.prog W 0 (fun _ => true) true n 33 ((cs.drop 1).take 1) = some y1 := by have this : DataW.trod enc Tryz.prog W 0 (fun _ => true) true n 33 ((cs.drop 1).take (Tryz.prog.cellsOf 33)) = some y1 := hf 1 _ rfl; rw [cb] at this; exact this
    simp only [List.map_cons, List.map_nil, Rows.uptoBulk, Rows.uptoBulkAll] at hB
    obtain ⟨k, e0, _, w0⟩ := DataW.trod_int Tryz.underlying22 f0
    obtain ⟨v, es, e1, hr1, hb1⟩ := open_entries f1 (by omega)
    have hk : 0 ≤ k ∧ k < 18446744073709551616 := by
      simp [Lit.wf, IntKind.min, IntKind.max, IntKind.signed, IntKind.bits] at w0
      omega
    refine ⟨k.toNat, v, es, ?_, by omega, hr1, hb1⟩
    have hd : cs.drop 2 = [] := List.drop_eq_nil_of_le (by omega)
    have this := n_split cs 0 1
    rw [e0, n_split cs 1 1, e1, hd, List.drop_zero] at this
    rw [this]
    simp [Int.toNat_of_nonneg hk.1]
end
end Go.Proofs.YtckkalmhekfnhaaGreatDoor
namespace Go.Proofs.YtckkalmhekfnhaaGreatDoor
open Go.ChangeShapes Go.WideShapes Go.ChangeAt Go.RowKit Go.Deep
set_option linter.unusedVariables false
set_option linter.unusedSimpArgs false
section
variable {H : Type} {enc : TypeId × Value → H} {W : World}
theorem u64_of_wf {k : Int} (w0 : (Lit.int .u64 k).wf = true) : 0 ≤ k ∧ k < 18446744073709551616 := by
  simp [Lit.wf, IntKind.min, IntKind.max, IntKind.signed, IntKind.bits] at w0
  omega
/-- A head that came in. -/
theorem open_head {fuel : Nat} {cs : List Value} {x : DataW H × List MemPlace} (h : DataW.trod enc Tryz.prog W 0 (fun _ => true) true fuel 32 cs = some x) :
    ∃ (a b c : Nat) (z : Int), cs = [.int .u64 (a : Int), .int .u64 (b : Int), .int .u64 (c : Int), .int .i64 z] ∧ a < 18446744073709551616 ∧ b < 18446744073709551616 ∧ c < 18446744073709551616 ∧ -9223372036854775808 ≤ z ∧ z ≤ 9223372036854775807 := by
  obtain ⟨xs, n, _, rfl, hl, hlen, hf⟩ := DataW.trod_struct Tryz.underlying32 h
  rw [show Tryz.prog.cellsOf 32 = 4 from by kernel_rfl] at hl
  match xs, hlen with
  | [y0, y1, y2, y3], _ =>
    have ci : Tryz.prog.cellsOf 22 = 1 := by kernel_rfl
    have cb : Tryz.prog.cellsOf 3 = 1 := by kernel_rfl
    have f0 : DataW.trod enc Tryz.prog W 0 (fun _ => true) true n 22 ((cs.drop 0).take 1) = some y0 := by rw [← ci]; exact hf 0 _ rfl
    have f1 : DataW.trod enc Tryz.prog W 0 (fun _ => true) true n 22 ((cs.drop 1).take 1) = some y1 := by have this : DataW.trod enc Tryz.prog W 0 (fun _ => true) true n 22 ((cs.drop 1).take (Tryz.prog.cellsOf 22)) = some y1 := hf 1 _ rfl; rw [ci] at this; exact this
    have f2 : DataW.trod enc Tryz.prog W 0 (fun _ => true) true n 22 ((cs.drop 2).take 1) = some y2 := by have this : DataW.trod enc Tryz.prog W 0 (fun _ => true) true n 22 ((cs.drop 2).take (Tryz.prog.cellsOf 22)) = some y2 := hf 2 _ rfl; rw [ci] at this; exact this
    have f3 : DataW.trod enc Tryz.prog W 0 (fun _ => true) true n 3 ((cs.drop 3).take 1) = some y3 := by have this : DataW.trod enc Tryz.prog W 0 (fun _ => true) true n 3 ((cs.drop 3).take (Tryz.prog.cellsOf 3)) = some y3 := hf 3 _ rfl; rw [cb] at this; exact this
    obtain ⟨k0, e0, _, w0⟩ := DataW.trod_int Tryz.underlying22 f0
    obtain ⟨k1, e1, _, w1⟩ := DataW.trod_int Tryz.underlying22 f1
    obtain ⟨k2, e2, _, w2⟩ := DataW.trod_int Tryz.underlying22 f2
    obtain ⟨k3, e3, _, w3⟩ := DataW.trod_int Tryz.underlying3 f3
    have h0 := u64_of_wf w0
    have h1 := u64_of_wf w1
    have h2 := u64_of_wf w2
    have h3 := int_of_wf w3
    refine ⟨k0.toNat, k1.toNat, k2.toNat, k3, ?_, by omega, by omega, by omega, h3.1, h3.2⟩
    have hd : cs.drop 4 = [] := List.drop_eq_nil_of_le (by omega)
    have this := n_split cs 0 1
    rw [e0, n_split cs 1 1, e1, n_split cs 2 1, e2, n_split cs 3 1, e3, hd, List.drop_zero] at this
    rw [this]
    simp [Int.toNat_of_nonneg h0.1, Int.toNat_of_nonneg h1.1, Int.toNat_of_nonneg h2.1]
end
end Go.Proofs.YtckkalmhekfnhaaGreatDoor
namespace Go.Proofs.YtckkalmhekfnhaaGreatDoor
open Go.ChangeShapes Go.WideShapes Go.ChangeAt Go.RowKit Go.Deep
set_option linter.unusedVariables false
set_option linter.unusedSimpArgs false
section
variable {H : Type} {enc : TypeId × Value → H} {W : World}
instance : Inhabited Value := ⟨.slice none 0 0⟩
/-- Batches that came in. -/
theorem open_batches {fuel : Nat} {cs : List Value} {x : DataW H × List MemPlace} (h : DataW.trod enc Tryz.prog W 0 (fun _ => true) true fuel 49 cs = some x) (hB : Rows.uptoBulk x.1 ≤ 1048576) :
    ∃ v bs, cs = [v] ∧ RdB W v bs ∧ bs.length ≤ 1048576 ∧ ∀ t ∈ bs, t.2.length ≤ 1048576 := by
  rcases open_slice Tryz.underlying49 h with ⟨rfl, rfl⟩ | ⟨a, len, cap, m, n, D, Pl, rfl, _, hl, hm, hmm, rfl, hx⟩
  · exact ⟨_, [], rfl, RdB.nil W, by simp, by simp⟩
  · have hC : Tryz.prog.cellsOf 35 = 2 := by kernel_rfl
    rw [hC] at hx
    simp only [if_true] at hmm
    simp only [Rows.uptoBulk] at hB
    obtain ⟨f, hf⟩ := choose_lt (α := Nat × Value × List En) (n := len) (p := fun i o => ((∀ j v, ([.int .u64 (o.1 : Int), o.2.1] : List Value)[j]? = some v → W.cell? ((a.add (i * 2)).add j) = some v) ∧ RdN W o.2.1 o.2.2 ∧ o.2.2.length ≤ 1048576) ∧ 1 ≤ Rows.uptoBulk (D i)) (by
      intro i hi
      obtain ⟨cs', h1, h2⟩ := hx i (by omega)
      have hDi : Rows.uptoBulk (D i) ≤ Rows.uptoBulkAll ((List.range len).map D) := n_bulk_part (List.mem_map.2 ⟨i, List.mem_range.2 hi, rfl⟩)
      obtain ⟨k, v, es, rfl, hk, hr, hle⟩ := open_batch h2 (by simp only; omega)
      obtain ⟨_, hlen, hc⟩ := World.cells?_some h1
      refine ⟨(k, v, es), ⟨fun j v hv => ?_, hr, hle⟩, bulk_one _⟩
      have hj := (List.getElem?_eq_some_iff.1 hv).1
      have := hc j hj
      rw [this, ← hv, List.getElem?_eq_getElem hj])
    have hbl := n_bulk_len D (List.range len) (fun i hi => (hf i (List.mem_range.1 hi)).2)
    rw [List.length_range] at hbl
    refine ⟨_, (List.range len).map fun i => ((f i).1, (f i).2.2), rfl, ⟨some a, cap, (List.range len).map f, by simp, by simp, by simpa using hl, by unfold maxLen at hm; omega, ?_, ?_⟩, by simp; omega, ?_⟩
    · intro t ht
      obtain ⟨i, hi, rfl⟩ := List.mem_map.1 ht
      exact (hf i (List.mem_range.1 hi)).1.2.1
    · intro hp
      obtain ⟨b, off, spot⟩ := a
      have hp' : 0 < len := by simpa using hp
      have h0 := (hf 0 hp').1
      have hc0 := h0.1 0 _ rfl
      have hspot : spot = none := by simpa [Addr.add] using World.cell?_spot hc0
      subst hspot
      refine ⟨b, off, rfl, fun i hi => ?_⟩
      have hi' : i < len := by simpa using hi
      have e9 : ((List.range len).map f)[i] = f i := by simp
      rw [e9]
      have c0 := (hf i hi').1.1 0 _ rfl
      have c1 := (hf i hi').1.1 1 _ rfl
      rw [Addr.add_mid, Addr.add_mid] at c0 c1
      exact ⟨c0, c1⟩
    · intro t ht
      obtain ⟨i, hi, rfl⟩ := List.mem_map.1 ht
      exact (hf i (List.mem_range.1 hi)).1.2.2
end
end Go.Proofs.YtckkalmhekfnhaaGreatDoor
