import Derived.Test.YtnepbjnemgebiaaFCase
import Derived.Test.YtnepbjnemgebiaaFFits
import Derived.Test.YtnepbjnemgebiaaLFCodes
import Derived.Test.YtnepbjnemgebiaaRefTake2
namespace Go.Proofs.Ytnepbjnemgebiaa
open Go.RowKit Go.BigFrame
set_option linter.unusedVariables false
set_option linter.unusedSimpArgs false

theorem Try.size_refframe : (Try.prog.info? 38).map (·.size) = some 2 := by kernel_rfl
theorem put3_heap {w : World} {g : Nat} {a b c : Value} {t : TypeId} (h : w.heap[g]? = some (.cells #[a, b, c] t (0, 0))) (x y z : Value) : (((w.setCell ⟨g, 0, none⟩ x).setCell ⟨g, 1, none⟩ y).setCell ⟨g, 2, none⟩ z).heap[g]? = some (.cells #[x, y, z] t (0, 0)) := by
  rw [heap_setCell_same _ g 2 _ t _ (heap_setCell_same _ g 1 _ t _ (heap_setCell_same w g 0 _ t _ h))]; rfl
theorem put3_kept {w0 w : World} (k : Kept [] w0 w) (g : Nat) (hg : w0.heap.size ≤ g) (x y z : Value) : Kept [] w0 (((w.setCell ⟨g, 0, none⟩ x).setCell ⟨g, 1, none⟩ y).setCell ⟨g, 2, none⟩ z) := ((k.setCell (Or.inr hg) x).setCell (Or.inr hg) y).setCell (Or.inr hg) z
theorem put3_other (w : World) (g b : Nat) (hb : b ≠ g) (x y z : Value) : (((w.setCell ⟨g, 0, none⟩ x).setCell ⟨g, 1, none⟩ y).setCell ⟨g, 2, none⟩ z).heap[b]? = w.heap[b]? := by
  rw [heap_setCell_other _ ⟨g, 2, none⟩ b z (by simpa using hb), heap_setCell_other _ ⟨g, 1, none⟩ b y (by simpa using hb), heap_setCell_other _ ⟨g, 0, none⟩ b x (by simpa using hb)]
theorem rNum_le {p : List Nat} {i e n : Nat} (h : i ≤ p.length) : (rNum p i e n).2.1 ≤ p.length := by
  unfold rNum
  split
  · exact h
  · split
    · exact h
    · simp only; omega

theorem rNum_ok {p : List Nat} {i e n X j : Nat} (h : rNum p i e n = (X, j, 0)) : e = 0 ∧ n ≤ p.length - i ∧ X = beL ((p.drop i).take n) ∧ j = i + n := by
  unfold rNum at h
  split at h
  · simp only [Prod.mk.injEq] at h; omega
  · split at h
    · simp only [Prod.mk.injEq] at h; omega
    · simp only [Prod.mk.injEq] at h; exact ⟨by omega, by omega, h.1.symm, h.2.1.symm⟩
theorem rNum_bad {p : List Nat} {i e n X j f : Nat} (h : rNum p i e n = (X, j, f)) (hf : f ≠ 0) : e ≠ 0 ∨ p.length - i < n := by
  unfold rNum at h
  split at h
  · exact Or.inl (by assumption)
  · split at h
    · exact Or.inr (by assumption)
    · simp only [Prod.mk.injEq] at h; omega
theorem chain4 {p : List Nat} {n X1 i1 f1 X2 i2 f2 X3 i3 f3 X4 i4 f4 : Nat} (hn : n < p.length) (h1 : rNum p n 0 1 = (X1, i1, f1)) (h2 : rNum p i1 f1 4 = (X2, i2, f2)) (h3 : rNum p i2 f2 8 = (X3, i3, f3)) (h4 : rNum p i3 f3 4 = (X4, i4, f4)) :
    (f4 = 0 → n + 17 ≤ p.length ∧ X2 = beL (((p.drop n).drop 1).take 4) ∧ X3 = beL (((p.drop n).drop 5).take 8) ∧ i4 = n + 17) ∧ (f4 ≠ 0 → p.length < n + 17) := by
  have hf1 : f1 = 0 := by
    rcases Nat.eq_zero_or_pos f1 with h | h
    · exact h
    · rcases rNum_bad h1 (by omega) with h | h <;> omega
  subst hf1
  obtain ⟨_, _, _, rfl⟩ := rNum_ok h1
  constructor
  · intro e
    subst e
    obtain ⟨rfl, a4, _, rfl⟩ := rNum_ok h4
    obtain ⟨rfl, a3, b3, rfl⟩ := rNum_ok h3
    obtain ⟨_, a2, b2, rfl⟩ := rNum_ok h2
    refine ⟨by omega, by rw [List.drop_drop]; exact b2, by rw [List.drop_drop]; rw [b3], by omega⟩
  · intro e
    rcases rNum_bad h4 e with h | h
    · rcases rNum_bad h3 h with h | h
      · rcases rNum_bad h2 h with h | h
        · omega
        · omega
      · by_cases e2 : f2 = 0
        · subst e2; obtain ⟨_, a2, b2, rfl⟩ := rNum_ok h2; omega
        · rcases rNum_bad h2 e2 with h | h <;> omega
    · by_cases e3 : f3 = 0
      · subst e3
        obtain ⟨rfl, a3, b3, rfl⟩ := rNum_ok h3
        obtain ⟨_, a2, b2, rfl⟩ := rNum_ok h2
        omega
      · rcases rNum_bad h3 e3 with h | h
        · rcases rNum_bad h2 h with h | h <;> omega
        · by_cases e2 : f2 = 0
          · subst e2; obtain ⟨_, a2, b2, rfl⟩ := rNum_ok h2; omega
          · rcases rNum_bad h2 e2 with h | h <;> omega

theorem put3_kept1 (w : World) (g : Nat) (x y z : Value) : Kept [g] w (((w.setCell ⟨g, 0, none⟩ x).setCell ⟨g, 1, none⟩ y).setCell ⟨g, 2, none⟩ z) := (((Kept.refl [g] w).setCell (Or.inl (by simp)) x).setCell (Or.inl (by simp)) y).setCell (Or.inl (by simp)) z
theorem rRaw_le {p : List Nat} {i e : Nat} {n : Int} (h : i ≤ p.length) : (rRaw p i e n).2.1 ≤ p.length := by
  unfold rRaw
  split
  · exact h
  · split
    · exact h
    · split
      · exact h
      · simp only; omega
theorem chain6 {p : List Nat} {n X2 i4 f4 i5 f5 X6 i6 f6 : Nat} {pay : List Nat} (hf : f4 = 0) (hi : i4 = n + 17) (h5 : rRaw p i4 f4 X2 = (pay, i5, f5)) (h6 : rNum p i5 f5 1 = (X6, i6, f6)) :
    (f6 = 0 → n + 18 + X2 ≤ p.length ∧ pay = (p.drop (n + 17)).take X2 ∧ i6 = n + 18 + X2) ∧ (f6 ≠ 0 → p.length < n + 18 + X2) := by
  subst hf
  subst hi
  unfold rRaw at h5
  rw [if_neg (by simp), if_neg (by omega)] at h5
  split at h5
  · rename_i hlt
    simp only [Prod.mk.injEq] at h5
    obtain ⟨rfl, rfl, rfl⟩ := h5
    exact ⟨fun e => by subst e; have := (rNum_ok h6).1; omega, fun _ => by omega⟩
  · rename_i hlt
    simp only [Prod.mk.injEq, Int.toNat_natCast] at h5
    obtain ⟨rfl, rfl, rfl⟩ := h5
    refine ⟨fun e => ?_, fun e => ?_⟩
    · subst e
      obtain ⟨_, a, _, b⟩ := rNum_ok h6
      exact ⟨by omega, rfl, by omega⟩
    · rcases rNum_bad h6 e with h | h <;> omega

theorem docNone {p : List Nat} {n X2 X3 i4 i6 : Nat} {pay : List Nat} (g : n + 17 ≤ p.length ∧ X2 = beL (((p.drop n).drop 1).take 4) ∧ X3 = beL (((p.drop n).drop 5).take 8) ∧ i4 = n + 17) (gi : n + 18 + X2 ≤ p.length ∧ pay = (p.drop (n + 17)).take X2 ∧ i6 = n + 18 + X2)
    (h1 : 1 ≤ X2) (h2 : X2 ≤ 65535) (hb : ∀ x ∈ p, x < 256) (hd : ¬ frB X3 pay = (p.drop n).take (i6 - n)) : firstF (p.drop n) = none := by
  cases hf : firstF (p.drop n) with
  | none => rfl
  | some x =>
    exfalso
    obtain ⟨pl', pay'⟩ := x
    obtain ⟨a1, a2, a3, a4, a5⟩ := firstF_form hf (fun x hx => hb x (List.mem_of_mem_drop hx))
    obtain ⟨p1, p2, p3, p4, p5⟩ := frB_parts pl' pay' ((p.drop n).drop (pay'.length + 18)) a1 a3 a4
    rw [← a5] at p1 p2 p4
    have e1 : X2 = pay'.length := by rw [g.2.1, p1, beL_of_wide (by omega) (by omega)]
    have e2 : X3 = pl' := by rw [g.2.2.1, p2, beL_of_wide (by omega) (by omega)]
    have e3 : pay = pay' := by rw [gi.2.1, e1]; rw [List.drop_drop] at p4; exact p4
    apply hd
    rw [e2, e3, gi.2.2, e1]
    conv => rhs; rw [a5]
    rw [show n + 18 + pay'.length - n = (frB pl' pay').length by rw [frB_len]; omega, List.take_left]

set_option maxRecDepth 100000 in
set_option maxHeartbeats 2000000 in
theorem docNext_any (v : Value) (p : List Nat) (z : Int) (w : World) (h : Rd w v p) (hz : -9223372036854775808 ≤ z ∧ z ≤ 9223372036854775807) :
    Calls Try.prog 15 #[v, .int .i64 z] w fun e w' => ∃ v', e = .returned (.tuple #[.agg #[.int .u64 (nextF p z).pl, v'], .int .i64 (nextF p z).next, .int .i64 (nextF p z).kind]) ∧ NewP w w' v' (nextF p z).pay ∧ Kept [] w w' := by
  have H := hide h
  obtain ⟨a1, n1, c1, rfl, hn1, hc1, ⟨hc2, hc3⟩, _, _, hcell⟩ := id h
  subst hn1
  clear h
  have HZ0 := hide (heap_alloc_new w (.cells #[.int .u64 0, .slice none 0 0] 38))
  have HK0 := hide ((Kept.refl [] w).alloc (.cells #[.int .u64 0, .slice none 0 0] 38))
  by_cases h1 : z = p.length
  · have hN : nextF p z = ⟨0, [], z, 0⟩ := by unfold nextF; rw [if_pos h1]
    rw [hN]
    clear hN hcell
    subst h1
    go_enter Try.func15, Try.ntmps15
    go_wp2
    refine bodyPost_ret (v := .tuple #[.agg #[.int .u64 0, .slice none 0 0], .int .i64 p.length, .int .i64 0]) ?_ rfl ⟨_, rfl, NewP.nil _ _, unhide HK0⟩
    exact results_cell_tmp2 rfl _ _ w.heap.size _ #[.int .u64 0, .slice none 0 0] (0, 0) _ rfl (unhide HZ0) Try.underlying38 rfl Try.size_refframe _ _ rfl rfl
  have h1' : (z == (p.length : Int)) = false := by rw [beq_eq_false_iff_ne]; exact h1
  by_cases h2 : z < 0
  · have hN : nextF p z = ⟨0, [], z, 2⟩ := by unfold nextF; rw [if_neg h1, if_pos (Or.inl h2)]
    rw [hN]
    clear hN hcell
    go_enter Try.func15, Try.ntmps15
    go_wp2
    refine bodyPost_ret (v := .tuple #[.agg #[.int .u64 0, .slice none 0 0], .int .i64 z, .int .i64 2]) ?_ rfl ⟨_, rfl, NewP.nil _ _, unhide HK0⟩
    exact results_cell_tmp2 rfl _ _ w.heap.size _ #[.int .u64 0, .slice none 0 0] (0, 0) _ rfl (unhide HZ0) Try.underlying38 rfl Try.size_refframe _ _ rfl rfl
  by_cases h3 : (p.length : Int) < z
  · have hN : nextF p z = ⟨0, [], z, 2⟩ := by unfold nextF; rw [if_neg h1, if_pos (Or.inr h3)]
    rw [hN]
    clear hN hcell
    go_enter Try.func15, Try.ntmps15
    go_wp2
    refine bodyPost_ret (v := .tuple #[.agg #[.int .u64 0, .slice none 0 0], .int .i64 z, .int .i64 2]) ?_ rfl ⟨_, rfl, NewP.nil _ _, unhide HK0⟩
    exact results_cell_tmp2 rfl _ _ w.heap.size _ #[.int .u64 0, .slice none 0 0] (0, 0) _ rfl (unhide HZ0) Try.underlying38 rfl Try.size_refframe _ _ rfl rfl
  obtain ⟨n, rfl⟩ : ∃ n : Nat, z = n := ⟨z.toNat, by omega⟩
  have hn : n < p.length := by omega
  obtain ⟨bb, off, rfl, hcl⟩ := hcell (by omega)
  clear hcell hcl
  have h3' : ¬ (p.length : Int) < n := by omega
  have HNN := hide (rfl : nextF p n = nextF p n)
  obtain ⟨NR, hNR⟩ : ∃ R, nextF p n = R := ⟨_, rfl⟩
  rw [hNR]
  have HNR := hide hNR
  clear hNR HNN
  go_enter Try.func15, Try.ntmps15
  go_wp2_with fail
  have HG0 := hide (heap_alloc2_old w (.cells #[.int .u64 0, .slice none 0 0] 38) (.cells #[.slice (some ⟨bb, off, none⟩) p.length c1, .int .i64 (n : Int), .int .i64 0] 66))
  have HR0 := hide (heap_alloc2_new w (.cells #[.int .u64 0, .slice none 0 0] 38) (.cells #[.slice (some ⟨bb, off, none⟩) p.length c1, .int .i64 (n : Int), .int .i64 0] 66))
  have HKK := hide ((unhide HK0).alloc (.cells #[.slice (some ⟨bb, off, none⟩) p.length c1, .int .i64 (n : Int), .int .i64 0] 66))
  refine Calls.mono (takeWide_any _ c1 p n 0 1 _ ((unhide H).old (unhide HKK) (by simp)) (by omega) (by decide)) ?_
  rintro e1 w1 ⟨rfl, k1⟩
  obtain ⟨X1, i1, f1, hx1⟩ : ∃ X i f, rNum p n 0 1 = (X, i, f) := ⟨_, _, _, rfl⟩
  have hl1 : i1 ≤ p.length := by have := rNum_le (p := p) (i := n) (e := 0) (n := 1) (by omega); rw [hx1] at this; exact this
  rw [hx1]
  have HX1 := hide hx1
  have HR1 := hide (k1.heap (unhide HR0) (by simp))
  have HG1 := hide (k1.heap (unhide HG0) (by simp))
  have HK1 := hide ((unhide HKK).trans k1 (by simp))
  clear k1 hx1
  obtain ⟨⟨s0, s1, s2⟩, t0, t1, t2⟩ := three (unhide HR1)
  have HP1 := hide (put3_heap (unhide HR1) (.slice (some ⟨bb, off, none⟩) p.length c1) (.int .i64 i1) (.int .i64 f1))
  have HQ1 := hide (put3_kept (unhide HK1) (w.heap.size + 1) (by omega) (.slice (some ⟨bb, off, none⟩) p.length c1) (.int .i64 i1) (.int .i64 f1))
  have HG1' := hide ((put3_other w1 (w.heap.size + 1) w.heap.size (by omega) (.slice (some ⟨bb, off, none⟩) p.length c1) (.int .i64 i1) (.int .i64 f1)).trans (unhide HG1))
  simp only
  go_wp2_with fail
  clear s0 s1 s2 t0 t1 t2
  refine Calls.mono (takeWide_any _ c1 p i1 f1 4 _ ((unhide H).old (unhide HQ1) (by simp)) hl1 (by decide)) ?_
  rintro e2 w2 ⟨rfl, k2⟩
  obtain ⟨X2, i2, f2, hx2⟩ : ∃ X i f, rNum p i1 f1 4 = (X, i, f) := ⟨_, _, _, rfl⟩
  have hl2 : i2 ≤ p.length := by have := rNum_le (p := p) (i := i1) (e := f1) (n := 4) hl1; rw [hx2] at this; exact this
  rw [hx2]
  have HX2 := hide hx2
  have HR2 := hide (k2.heap (unhide HP1) (by simp))
  have HG2 := hide (k2.heap (unhide HG1') (by simp))
  have HK2 := hide ((unhide HQ1).trans k2 (by simp))
  clear k2 hx2
  obtain ⟨⟨s0, s1, s2⟩, t0, t1, t2⟩ := three (unhide HR2)
  have HP2 := hide (put3_heap (unhide HR2) (.slice (some ⟨bb, off, none⟩) p.length c1) (.int .i64 i2) (.int .i64 f2))
  have HQ2 := hide (put3_kept (unhide HK2) (w.heap.size + 1) (by omega) (.slice (some ⟨bb, off, none⟩) p.length c1) (.int .i64 i2) (.int .i64 f2))
  have HG2' := hide ((put3_other w2 (w.heap.size + 1) w.heap.size (by omega) (.slice (some ⟨bb, off, none⟩) p.length c1) (.int .i64 i2) (.int .i64 f2)).trans (unhide HG2))
  simp only
  go_wp2_with fail
  clear s0 s1 s2 t0 t1 t2
  refine Calls.mono (takeWide_any _ c1 p i2 f2 8 _ ((unhide H).old (unhide HQ2) (by simp)) hl2 (by decide)) ?_
  rintro e3 w3 ⟨rfl, k3⟩
  obtain ⟨X3, i3, f3, hx3⟩ : ∃ X i f, rNum p i2 f2 8 = (X, i, f) := ⟨_, _, _, rfl⟩
  have hl3 : i3 ≤ p.length := by have := rNum_le (p := p) (i := i2) (e := f2) (n := 8) hl2; rw [hx3] at this; exact this
  rw [hx3]
  have HX3 := hide hx3
  have HR3 := hide (k3.heap (unhide HP2) (by simp))
  have HG3 := hide (k3.heap (unhide HG2') (by simp))
  have HK3 := hide ((unhide HQ2).trans k3 (by simp))
  clear k3 hx3
  obtain ⟨⟨s0, s1, s2⟩, t0, t1, t2⟩ := three (unhide HR3)
  have HP3 := hide (put3_heap (unhide HR3) (.slice (some ⟨bb, off, none⟩) p.length c1) (.int .i64 i3) (.int .i64 f3))
  have HQ3 := hide (put3_kept (unhide HK3) (w.heap.size + 1) (by omega) (.slice (some ⟨bb, off, none⟩) p.length c1) (.int .i64 i3) (.int .i64 f3))
  have HG3' := hide ((put3_other w3 (w.heap.size + 1) w.heap.size (by omega) (.slice (some ⟨bb, off, none⟩) p.length c1) (.int .i64 i3) (.int .i64 f3)).trans (unhide HG3))
  simp only
  go_wp2_with fail
  clear s0 s1 s2 t0 t1 t2
  refine Calls.mono (takeWide_any _ c1 p i3 f3 4 _ ((unhide H).old (unhide HQ3) (by simp)) hl3 (by decide)) ?_
  rintro e4 w4 ⟨rfl, k4⟩
  obtain ⟨X4, i4, f4, hx4⟩ : ∃ X i f, rNum p i3 f3 4 = (X, i, f) := ⟨_, _, _, rfl⟩
  have hl4 : i4 ≤ p.length := by have := rNum_le (p := p) (i := i3) (e := f3) (n := 4) hl3; rw [hx4] at this; exact this
  rw [hx4]
  have HX4 := hide hx4
  have HR4 := hide (k4.heap (unhide HP3) (by simp))
  have HG4 := hide (k4.heap (unhide HG3') (by simp))
  have HK4 := hide ((unhide HQ3).trans k4 (by simp))
  clear k4 hx4
  obtain ⟨⟨s0, s1, s2⟩, t0, t1, t2⟩ := three (unhide HR4)
  have HP4 := hide (put3_heap (unhide HR4) (.slice (some ⟨bb, off, none⟩) p.length c1) (.int .i64 i4) (.int .i64 f4))
  have HQ4 := hide (put3_kept (unhide HK4) (w.heap.size + 1) (by omega) (.slice (some ⟨bb, off, none⟩) p.length c1) (.int .i64 i4) (.int .i64 f4))
  have HG4' := hide ((put3_other w4 (w.heap.size + 1) w.heap.size (by omega) (.slice (some ⟨bb, off, none⟩) p.length c1) (.int .i64 i4) (.int .i64 f4)).trans (unhide HG4))
  simp only
  have HCH := hide (chain4 hn (unhide HX1) (unhide HX2) (unhide HX3) (unhide HX4))
  have HBD := hide (fun (h : firstF (p.drop n) = none) => by unfold nextF; rw [if_neg h1, if_neg (by omega), Int.toNat_natCast, h] : firstF (p.drop n) = none → nextF p n = ⟨0, [], n, 2⟩)
  have d0 : (((w4.setCell ⟨w.heap.size + 1, 0, none⟩ (.slice (some ⟨bb, off, none⟩) p.length c1)).setCell ⟨w.heap.size + 1, 1, none⟩ (.int .i64 (i4 : Int))).setCell ⟨w.heap.size + 1, 2, none⟩ (.int .i64 (f4 : Int))).cell? ⟨w.heap.size, 0, none⟩ = some (.int .u64 0) := by rw [cell_of_row _ _ _ _ _ _ (unhide HG4')]; rfl
  have d1 : (((w4.setCell ⟨w.heap.size + 1, 0, none⟩ (.slice (some ⟨bb, off, none⟩) p.length c1)).setCell ⟨w.heap.size + 1, 1, none⟩ (.int .i64 (i4 : Int))).setCell ⟨w.heap.size + 1, 2, none⟩ (.int .i64 (f4 : Int))).cell? ⟨w.heap.size, 1, none⟩ = some (.slice none 0 0) := by rw [cell_of_row _ _ _ _ _ _ (unhide HG4')]; rfl
  have u0 : (((w4.setCell ⟨w.heap.size + 1, 0, none⟩ (.slice (some ⟨bb, off, none⟩) p.length c1)).setCell ⟨w.heap.size + 1, 1, none⟩ (.int .i64 (i4 : Int))).setCell ⟨w.heap.size + 1, 2, none⟩ (.int .i64 (f4 : Int))).frozen? ⟨w.heap.size, 0, none⟩ = false := frozen_of_row _ _ _ _ _ (unhide HG4')
  have u1 : (((w4.setCell ⟨w.heap.size + 1, 0, none⟩ (.slice (some ⟨bb, off, none⟩) p.length c1)).setCell ⟨w.heap.size + 1, 1, none⟩ (.int .i64 (i4 : Int))).setCell ⟨w.heap.size + 1, 2, none⟩ (.int .i64 (f4 : Int))).frozen? ⟨w.heap.size, 1, none⟩ = false := frozen_of_row _ _ _ _ _ (unhide HG4')
  by_cases hf4 : f4 = 0
  · have hf4' : ((f4 : Int) != 0) = false := by rw [hf4]; rfl
    have HGG := hide ((unhide HCH).1 hf4)
    have HF4 := hide hf4
    clear hf4
    have hi4 : i4 = n + 17 := (unhide HGG).2.2.2
    have hx2 : X2 < 4294967296 := by rw [(unhide HGG).2.1]; exact Try.lt_of_beL (fun x hx => (unhide H).byte x (List.mem_of_mem_drop hx)) 1 4 (by decide)
    have hx3 : X3 < 18446744073709551616 := by rw [(unhide HGG).2.2.1]; exact Try.lt_of_beL (fun x hx => (unhide H).byte x (List.mem_of_mem_drop hx)) 5 8 (by decide)
    have HI4 := hide hi4
    clear hi4
    by_cases hz2 : X2 = 0
    · have HN := hide ((unhide HNR).symm.trans (unhide HBD (by unfold firstF; rw [← (unhide HGG).2.1, if_neg]; rintro ⟨_, h, _⟩; omega)))
      have hz2' : ((X2 : Int) == 0) = true := by rw [hz2]; rfl
      clear hz2
      go_wp2
      refine bodyPost_ret (v := .tuple #[.agg #[.int .u64 0, .slice none 0 0], .int .i64 n, .int .i64 2]) ?_ rfl ⟨_, by rw [unhide HN]; rfl, by rw [unhide HN]; exact NewP.nil _ _, put2_kept (unhide HQ4) w.heap.size (Nat.le_refl _) (.int .u64 0) (.slice none 0 0)⟩
      exact results_cell_tmp2 rfl _ _ w.heap.size _ #[.int .u64 0, .slice none 0 0] (0, 0) _ rfl (put2_heap (unhide HG4') (.int .u64 0) (.slice none 0 0)) Try.underlying38 rfl Try.size_refframe _ _ rfl rfl

    have hz2' : ((X2 : Int) == 0) = false := by rw [beq_eq_false_iff_ne]; omega
    by_cases hm2 : 65535 < X2
    · have HN := hide ((unhide HNR).symm.trans (unhide HBD (by unfold firstF; rw [← (unhide HGG).2.1, if_neg]; rintro ⟨_, _, h, _⟩; omega)))
      have hm2' : (65535 : Int) < X2 := by omega
      go_wp2
      refine bodyPost_ret (v := .tuple #[.agg #[.int .u64 0, .slice none 0 0], .int .i64 n, .int .i64 2]) ?_ rfl ⟨_, by rw [unhide HN]; rfl, by rw [unhide HN]; exact NewP.nil _ _, put2_kept (unhide HQ4) w.heap.size (Nat.le_refl _) (.int .u64 0) (.slice none 0 0)⟩
      exact results_cell_tmp2 rfl _ _ w.heap.size _ #[.int .u64 0, .slice none 0 0] (0, 0) _ rfl (put2_heap (unhide HG4') (.int .u64 0) (.slice none 0 0)) Try.underlying38 rfl Try.size_refframe _ _ rfl rfl

    have hm2' : ¬ (65535 : Int) < X2 := by omega
    clear d0 d1 u0 u1
    go_wp2_with fail
    clear s0 s1 s2 t0 t1 t2
    refine Calls.mono (takeRaw_any _ c1 p i4 f4 X2 _ ((unhide H).old (unhide HQ4) (by simp)) hl4 (by omega)) ?_
    rintro e5 w5 ⟨rv, rfl, r5, k5, b5⟩
    obtain ⟨pay5, i5, f5, hx5⟩ : ∃ X i f, rRaw p i4 f4 X2 = (X, i, f) := ⟨_, _, _, rfl⟩
    have hl5 : i5 ≤ p.length := by have := rRaw_le (p := p) (i := i4) (e := f4) (n := X2) hl4; rw [hx5] at this; exact this
    rw [hx5] at r5 ⊢
    simp only at r5
    have HX5 := hide hx5
    have HB5 := hide r5
    have HBL := hide (fun x hx => by have h9 := b5 x hx; have h8 := lt_of_block (unhide HP4); omega : ∀ x ∈ blk rv, w.heap.size + 1 < x)
    have HR5 := hide (k5.heap (unhide HP4) (by simp))
    have HG5 := hide (k5.heap (unhide HG4') (by simp))
    have HK5 := hide ((unhide HQ4).trans k5 (by simp))
    obtain ⟨ar, nr, cr, hrv, hnr, _⟩ := id r5
    subst hrv
    clear k5 hx5 r5 b5
    obtain ⟨⟨s0, s1, s2⟩, t0, t1, t2⟩ := three (unhide HR5)
    have HP5 := hide (put3_heap (unhide HR5) (.slice (some ⟨bb, off, none⟩) p.length c1) (.int .i64 i5) (.int .i64 f5))
    have HQ5 := hide (put3_kept (unhide HK5) (w.heap.size + 1) (by omega) (.slice (some ⟨bb, off, none⟩) p.length c1) (.int .i64 i5) (.int .i64 f5))
    have HG5' := hide ((put3_other w5 (w.heap.size + 1) w.heap.size (by omega) (.slice (some ⟨bb, off, none⟩) p.length c1) (.int .i64 i5) (.int .i64 f5)).trans (unhide HG5))
    have HB5' := hide ((unhide HB5).kept (put3_kept1 w5 (w.heap.size + 1) (.slice (some ⟨bb, off, none⟩) p.length c1) (.int .i64 i5) (.int .i64 f5)) (by intro x hx hm; have h9 := unhide HBL x hx; rw [List.mem_singleton] at hm; omega))
    simp only
    go_wp2_with fail
    clear s0 s1 s2 t0 t1 t2
    refine Calls.mono (takeWide_any _ c1 p i5 f5 1 _ ((unhide H).old (unhide HQ5) (by simp)) hl5 (by decide)) ?_
    rintro e6 w6 ⟨rfl, k6⟩
    obtain ⟨X6, i6, f6, hx6⟩ : ∃ X i f, rNum p i5 f5 1 = (X, i, f) := ⟨_, _, _, rfl⟩
    have hl6 : i6 ≤ p.length := by have := rNum_le (p := p) (i := i5) (e := f5) (n := 1) hl5; rw [hx6] at this; exact this
    rw [hx6]
    have HX6 := hide hx6
    have HR6 := hide (k6.heap (unhide HP5) (by simp))
    have HG6 := hide (k6.heap (unhide HG5') (by simp))
    have HK6 := hide ((unhide HQ5).trans k6 (by simp))
    have HB6 := hide ((unhide HB5').old k6 (by simp))
    clear k6 hx6
    obtain ⟨⟨s0, s1, s2⟩, t0, t1, t2⟩ := three (unhide HR6)
    have HP6 := hide (put3_heap (unhide HR6) (.slice (some ⟨bb, off, none⟩) p.length c1) (.int .i64 i6) (.int .i64 f6))
    have HQ6 := hide (put3_kept (unhide HK6) (w.heap.size + 1) (by omega) (.slice (some ⟨bb, off, none⟩) p.length c1) (.int .i64 i6) (.int .i64 f6))
    have HG6' := hide ((put3_other w6 (w.heap.size + 1) w.heap.size (by omega) (.slice (some ⟨bb, off, none⟩) p.length c1) (.int .i64 i6) (.int .i64 f6)).trans (unhide HG6))
    have HB6' := hide ((unhide HB6).kept (put3_kept1 w6 (w.heap.size + 1) (.slice (some ⟨bb, off, none⟩) p.length c1) (.int .i64 i6) (.int .i64 f6)) (by intro x hx hm; have h9 := unhide HBL x hx; rw [List.mem_singleton] at hm; omega))
    simp only
    have HCI := hide (chain6 (unhide HF4) (unhide HI4) (unhide HX5) (unhide HX6))
    go_wp2_with fail
    clear s0 s1 s2 t0 t1 t2
    obtain ⟨W6, hW6⟩ : ∃ W, ((w6.setCell ⟨w.heap.size + 1, 0, none⟩ (.slice (some ⟨bb, off, none⟩) p.length c1)).setCell ⟨w.heap.size + 1, 1, none⟩ (.int .i64 (i6 : Int))).setCell ⟨w.heap.size + 1, 2, none⟩ (.int .i64 (f6 : Int)) = W := ⟨_, rfl⟩
    rw [hW6] at HP6 HQ6 HG6' HB6' ⊢
    clear hW6
    have e0 : W6.cell? ⟨w.heap.size, 0, none⟩ = some (.int .u64 0) := by rw [cell_of_row _ _ _ _ _ _ (unhide HG6')]; rfl
    have e1 : W6.cell? ⟨w.heap.size, 1, none⟩ = some (.slice none 0 0) := by rw [cell_of_row _ _ _ _ _ _ (unhide HG6')]; rfl
    have v0 : W6.frozen? ⟨w.heap.size, 0, none⟩ = false := frozen_of_row _ _ _ _ _ (unhide HG6')
    have v1 : W6.frozen? ⟨w.heap.size, 1, none⟩ = false := frozen_of_row _ _ _ _ _ (unhide HG6')
    have r1 : W6.cell? ⟨w.heap.size + 1, 1, none⟩ = some (.int .i64 i6) := by rw [cell_of_row _ _ _ _ _ _ (unhide HP6)]; rfl
    have r2 : W6.cell? ⟨w.heap.size + 1, 2, none⟩ = some (.int .i64 f6) := by rw [cell_of_row _ _ _ _ _ _ (unhide HP6)]; rfl
    by_cases hf6 : f6 = 0
    · have hf6' : ((f6 : Int) != 0) = false := by rw [hf6]; rfl
      have HGI := hide ((unhide HCI).1 hf6)
      have HF6 := hide hf6
      clear hf6
      have hni : (n : Int) ≤ i6 := by have := (unhide HGI).2.2; omega
      have hip : (i6 : Int) ≤ p.length := by omega
      have hic : (i6 : Int) ≤ c1 := by omega
      have hpl5 : pay5.length = X2 := by rw [(unhide HGI).2.1, List.length_take, List.length_drop]; have := (unhide HGI).1; omega
      have HPL := hide hpl5
      clear hpl5
      have HLB := hide (unhide HB6').byte
      have HKd := hide (unhide HQ6).drew
      have HCUT := hide (fun W (k : Kept [] w W) => ((unhide H).cutN n i6 (by omega) (by omega)).old k (by simp))
      obtain ⟨D, hD⟩ : ∃ D, decide (frB X3 pay5 = (p.drop n).take (i6 - n)) = D := ⟨_, rfl⟩
      have HD := hide hD
      clear hD
      go_region_held3 (fun w' => w'.cell? ⟨w.heap.size + 1, 1, none⟩ = some (.int .i64 i6) ∧ w'.cell? ⟨w.heap.size + 1, 2, none⟩ = some (.int .i64 f6)) (go_keep) (first
        | (go_at_call 29; refine (refLaid_any X3 _ pay5 _ (by exact unhide HB6') hx3 (by have := unhide HPL; omega)).mono ?_; rintro e w7 ⟨v7, rfl, r7, k7⟩; have j1 := k7.cell (show W6.drew.cell? _ = _ from r1) (by simp); have j2 := k7.cell (show W6.drew.cell? _ = _ from r2) (by simp); have HR7 := hide r7; have HK7 := hide ((unhide HKd).trans k7 (by simp)); have HG7 := hide (k7.heap (show W6.drew.heap[w.heap.size]? = _ from unhide HG6') (by simp)); have HP7 := hide (k7.heap (show W6.drew.heap[w.heap.size + 1]? = _ from unhide HP6) (by simp)); have HB7 := hide ((unhide HB6').old (show Kept [] W6 w7 from ⟨k7.os, k7.tape, k7.output, k7.size, k7.block⟩) (by simp)); clear r7 k7)
        | (go_at_call 13; refine (same_any _ _ _ _ _ (by exact unhide HR7) (by exact unhide HCUT _ (unhide HK7))).mono ?_; rintro e w8 ⟨rfl, m8, rfl⟩; rw [unhide HD]))
      clear e0 e1 v0 v1 r1 r2
      have e0 : w7.cell? ⟨w.heap.size, 0, none⟩ = some (.int .u64 0) := by rw [cell_of_row _ _ _ _ _ _ (unhide HG7)]; rfl
      have e1 : w7.cell? ⟨w.heap.size, 1, none⟩ = some (.slice none 0 0) := by rw [cell_of_row _ _ _ _ _ _ (unhide HG7)]; rfl
      have v0 : w7.frozen? ⟨w.heap.size, 0, none⟩ = false := frozen_of_row _ _ _ _ _ (unhide HG7)
      have v1 : w7.frozen? ⟨w.heap.size, 1, none⟩ = false := frozen_of_row _ _ _ _ _ (unhide HG7)
      cases D with
      | false =>
        have HN := hide ((unhide HNR).symm.trans (unhide HBD (docNone (unhide HGG) (unhide HGI) (by omega) (by omega) (unhide H).byte (of_decide_eq_false (unhide HD)))))
        go_wp2
        refine bodyPost_ret (v := .tuple #[.agg #[.int .u64 0, .slice none 0 0], .int .i64 n, .int .i64 2]) ?_ rfl ⟨_, by rw [unhide HN]; rfl, by rw [unhide HN]; exact NewP.nil _ _, put2_kept ((unhide HK7).drewN _) w.heap.size (Nat.le_refl _) (.int .u64 0) (.slice none 0 0)⟩
        exact results_cell_tmp2 rfl _ _ w.heap.size 38 #[.int .u64 0, .slice none 0 0] (0, 0) _ rfl (by exact put2_heap (w := w7.drewN _) (unhide HG7) (.int .u64 0) (.slice none 0 0)) Try.underlying38 rfl Try.size_refframe _ _ rfl rfl
      | true =>
        have hfs : firstF (p.drop n) = some (X3, pay5) := by
          have h9 := of_decide_eq_true (unhide HD)
          rw [show p.drop n = frB X3 pay5 ++ (p.drop n).drop (i6 - n) by rw [h9, List.take_append_drop]]
          exact firstF_some X3 pay5 _ hx3 (by rw [unhide HPL]; omega) (by rw [unhide HPL]; omega) (unhide HLB)
        have HN := hide ((unhide HNR).symm.trans (by unfold nextF; rw [if_neg h1, if_neg (by omega), Int.toNat_natCast, hfs] : nextF p n = ⟨X3, pay5, (n : Int) + 18 + pay5.length, 1⟩))
        have HI6 := hide (by rw [unhide HPL, (unhide HGI).2.2]; omega : (n : Int) + 18 + pay5.length = (i6 : Int))
        clear hfs
        go_wp2_with fail
        obtain ⟨W7, hW7⟩ : ∃ W, w7.drewN m8 = W := ⟨_, rfl⟩
        have HKW := hide ((unhide HK7).drewN m8)
        have HGW := hide (show (w7.drewN m8).heap[w.heap.size]? = _ from unhide HG7)
        have HPW := hide (show (w7.drewN m8).heap[w.heap.size + 1]? = _ from unhide HP7)
        have HBW := hide (show Rd (w7.drewN m8) _ _ from unhide HB7)
        rw [hW7] at HKW HGW HPW HBW ⊢
        clear hW7 e0 e1 v0 v1
        have e0 : W7.cell? ⟨w.heap.size, 0, none⟩ = some (.int .u64 0) := by rw [cell_of_row _ _ _ _ _ _ (unhide HGW)]; rfl
        have e1 : W7.cell? ⟨w.heap.size, 1, none⟩ = some (.slice none 0 0) := by rw [cell_of_row _ _ _ _ _ _ (unhide HGW)]; rfl
        have v0 : W7.frozen? ⟨w.heap.size, 0, none⟩ = false := frozen_of_row _ _ _ _ _ (unhide HGW)
        have v1 : W7.frozen? ⟨w.heap.size, 1, none⟩ = false := frozen_of_row _ _ _ _ _ (unhide HGW)
        have r1 : W7.cell? ⟨w.heap.size + 1, 1, none⟩ = some (.int .i64 i6) := by rw [cell_of_row _ _ _ _ _ _ (unhide HPW)]; rfl
        have HRQ := hide ((unhide HBW).kept (put2_kept' W7 w.heap.size (.int .u64 X3) (.slice ar nr cr)) (by
          intro x hx hm
          have h9 := unhide HBL x hx
          have h8 : x = w.heap.size := by simpa using hm
          omega))
        go_region_held3 (fun w' => w'.cell? ⟨w.heap.size + 1, 1, none⟩ = some (.int .i64 i6)) (go_keep) (fail)
        all_goals go_wp2
        all_goals
          refine bodyPost_ret (v := .tuple #[.agg #[.int .u64 X3, .slice ar nr cr], .int .i64 i6, .int .i64 1]) ?_ rfl ⟨.slice ar nr cr, by rw [unhide HN]; simp only; rw [unhide HI6]; rfl, by rw [unhide HN]; exact ⟨unhide HRQ, fun x hx => by have := unhide HBL x hx; omega⟩, (put2_kept (unhide HKW) w.heap.size (Nat.le_refl _) (.int .u64 X3) (.slice ar nr cr)).drew⟩
          exact results_cell_tmp2 rfl _ _ w.heap.size 38 #[.int .u64 X3, .slice ar nr cr] (0, 0) _ rfl (by exact put2_heap (unhide HGW) (.int .u64 X3) (.slice ar nr cr)) Try.underlying38 rfl Try.size_refframe _ _ rfl rfl
    · have hf6' : ((f6 : Int) != 0) = true := by rw [bne_iff_ne]; omega
      have HN := hide ((unhide HNR).symm.trans (unhide HBD (by
        unfold firstF
        rw [← (unhide HGG).2.1, if_neg]
        rintro ⟨_, _, _, h, _⟩
        rw [List.length_drop] at h
        have := (unhide HCI).2 hf6
        omega)))
      have hf6a : (f6 == 0) = false := by rw [beq_eq_false_iff_ne]; exact hf6
      go_quiet (fail)
      go_wp2
      refine bodyPost_ret (v := .tuple #[.agg #[.int .u64 0, .slice none 0 0], .int .i64 n, .int .i64 2]) ?_ rfl ⟨_, by rw [unhide HN]; rfl, by rw [unhide HN]; exact NewP.nil _ _, put2_kept ((unhide HQ6).drewN _) w.heap.size (Nat.le_refl _) (.int .u64 0) (.slice none 0 0)⟩
      exact results_cell_tmp2 rfl _ _ w.heap.size 38 #[.int .u64 0, .slice none 0 0] (0, 0) _ rfl (by exact put2_heap (w := W6.drewN _) (unhide HG6') (.int .u64 0) (.slice none 0 0)) Try.underlying38 rfl Try.size_refframe _ _ rfl rfl
  · have hf4' : ((f4 : Int) != 0) = true := by rw [bne_iff_ne]; omega
    have HN := hide ((unhide HNR).symm.trans (unhide HBD (firstF_short (by have := (unhide HCH).2 hf4; rw [List.length_drop]; omega))))
    go_wp2
    refine bodyPost_ret (v := .tuple #[.agg #[.int .u64 0, .slice none 0 0], .int .i64 n, .int .i64 2]) ?_ rfl ⟨_, by rw [unhide HN]; rfl, by rw [unhide HN]; exact NewP.nil _ _, put2_kept (unhide HQ4) w.heap.size (Nat.le_refl _) (.int .u64 0) (.slice none 0 0)⟩
    exact results_cell_tmp2 rfl _ _ w.heap.size _ #[.int .u64 0, .slice none 0 0] (0, 0) _ rfl (put2_heap (unhide HG4') (.int .u64 0) (.slice none 0 0)) Try.underlying38 rfl Try.size_refframe _ _ rfl rfl


end Go.Proofs.Ytnepbjnemgebiaa
