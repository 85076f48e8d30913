import Derived.Test.YtckkalmhekfnhaaGreatDoorTorC
import Derived.Test.YtckkalmhekfnhaaGreatDoorTorA
import Derived.Deep.RegionHeld3
namespace Go.Proofs.YtckkalmhekfnhaaGreatDoor
open Go.RowKit Go.BigFrame
set_option linter.unusedVariables false
set_option linter.unusedSimpArgs false

def endS : Nat → List (List En) → Nat
  | i, [] => i
  | i, es :: r => endS ((i + es.length) % 18446744073709551616) r
theorem numS_len : ∀ (i : Nat) (L : List (List En)), (numS i L).length = L.length
  | _, [] => rfl
  | i, es :: r => by rw [numS, List.length_cons, numS_len _ r, List.length_cons]
theorem runS_len_ge : ∀ (i : Nat) (L : List (List En)), okS i L = true → L.length ≤ (runS (numS i L)).length
  | _, [], _ => by simp
  | i, es :: r, h => by
    rw [okS, Bool.and_eq_true, decide_eq_true_eq] at h
    have := runS_len_ge _ r h.2
    rw [numS, runS_cons, List.length_append, sbB_len h.1, List.length_cons]
    omega
theorem runS_len_le : ∀ (i : Nat) (L : List (List En)), i < 18446744073709551616 → okS i L = true → (runS (numS i L)).length ≤ 30018 * L.length
  | _, [], _, _ => by simp [numS, runS]
  | i, es :: r, hi, h => by
    rw [okS, Bool.and_eq_true, decide_eq_true_eq] at h
    have := runS_len_le _ r (by omega) h.2
    have := batB_lenS h.1 hi
    rw [numS, runS_cons, List.length_append, sbB_len h.1, List.length_cons]
    omega
/-- What was laid is read. -/
theorem rdL_run : ∀ (L : List (List En)) (i g : Nat) (A r : List Nat), i < 18446744073709551616 → okS i L = true → (∀ es ∈ L, byN es) →
    rdL (L.length + g) (A ++ (runS (numS i L) ++ r)) A.length i = (numS i L ++ (rdL g (A ++ (runS (numS i L) ++ r)) (A.length + (runS (numS i L)).length) (endS i L)).1, (rdL g (A ++ (runS (numS i L) ++ r)) (A.length + (runS (numS i L)).length) (endS i L)).2)
  | [], i, g, A, r, _, _, _ => by simp [numS, runS, endS]
  | es :: L, i, g, A, r, hi, h, hb => by
    rw [okS, Bool.and_eq_true, decide_eq_true_eq] at h
    obtain ⟨r1, r2, r3⟩ := rb_laid A (runS (numS ((i + es.length) % 18446744073709551616) L) ++ r) h.1 hi (hb es (by simp))
    have hp : A ++ (runS (numS i (es :: L)) ++ r) = A ++ (sbB i es ++ (runS (numS ((i + es.length) % 18446744073709551616) L) ++ r)) := by rw [numS, runS_cons, List.append_assoc]
    have hp2 : A ++ (sbB i es ++ (runS (numS ((i + es.length) % 18446744073709551616) L) ++ r)) = (A ++ sbB i es) ++ (runS (numS ((i + es.length) % 18446744073709551616) L) ++ r) := by rw [List.append_assoc]
    have ih := rdL_run L ((i + es.length) % 18446744073709551616) g (A ++ sbB i es) r (by omega) h.2 (fun x hx => hb x (by simp [hx]))
    rw [← hp2, List.length_append] at ih
    rw [hp, List.length_cons, show L.length + 1 + g = (L.length + g) + 1 by omega, rdL_yes r1, r2, r3, Int.toNat_natCast, ih]
    rw [numS, runS_cons, List.length_append, endS]
    simp [Nat.add_assoc]
theorem rdL_bounds {p : List Nat} (hb : ∀ x ∈ p, x < 256) : ∀ (g n i : Nat), n ≤ p.length → n ≤ (rdL g p n i).2 ∧ (rdL g p n i).2 ≤ p.length
  | 0, n, i, h => ⟨Nat.le_refl _, h⟩
  | g + 1, n, i, h => by
    by_cases hr : rbOk p n i = true
    · obtain ⟨m, hm, h1, h2⟩ := rb_next hb hr
      have := rdL_bounds hb g m ((i + (rbE p n i).length) % 18446744073709551616) h2
      rw [rdL_yes hr, hm, Int.toNat_natCast]
      exact ⟨by simp only; omega, this.2⟩
    · rw [Bool.not_eq_true] at hr
      rw [rdL_no hr]
      exact ⟨Nat.le_refl _, h⟩
/-- A whole segment, with anything behind it. -/
theorem seg_run {a b c : Nat} {z : Int} {L : List (List En)} (r : List Nat) (ha : a < 18446744073709551616) (hb : b < 18446744073709551616) (hc : c < 18446744073709551616) (hz : wideB z = true) (hk : okS c L = true) (hy : ∀ es ∈ L, byN es) :
    hdC (ehB a b c z ++ (runS (numS c L) ++ r)) = ⟨a, b, c, z.toNat⟩ ∧ sgE (ehB a b c z ++ (runS (numS c L) ++ r)) = 0 ∧ ∃ R g, sgB (ehB a b c z ++ (runS (numS c L) ++ r)) = numS c L ++ R ∧
      (R, sgU (ehB a b c z ++ (runS (numS c L) ++ r))) = rdL g (ehB a b c z ++ (runS (numS c L) ++ r)) (48 + (runS (numS c L)).length) (endS c L) := by
  have h1 := hdF_laid ha hb hc hz (runS (numS c L) ++ r)
  have hX : hdC (ehB a b c z ++ (runS (numS c L) ++ r)) = ⟨a, b, c, z.toNat⟩ := by unfold hdC; rw [h1]; rfl
  have hl : (ehB a b c z ++ (runS (numS c L) ++ r)).length = L.length + ((ehB a b c z ++ (runS (numS c L) ++ r)).length - L.length) := by
    have := runS_len_ge c L hk
    rw [List.length_append, List.length_append]
    omega
  have hr := rdL_run L c ((ehB a b c z ++ (runS (numS c L) ++ r)).length - L.length) (ehB a b c z) r hc hk hy
  rw [← hl, ehB_len hz] at hr
  refine ⟨hX, by unfold sgE; rw [h1]; rfl, (rdL ((ehB a b c z ++ (runS (numS c L) ++ r)).length - L.length) (ehB a b c z ++ (runS (numS c L) ++ r)) (48 + (runS (numS c L)).length) (endS c L)).1, (ehB a b c z ++ (runS (numS c L) ++ r)).length - L.length, ?_, ?_⟩
  · unfold sgB; rw [h1, hX]; simp only [Option.isSome_some, if_true]; rw [hr]
  · unfold sgU; rw [h1, hX]; simp only [Option.isSome_some, if_true]; rw [hr]
theorem seg_whole {a b c : Nat} {z : Int} {L : List (List En)} (ha : a < 18446744073709551616) (hb : b < 18446744073709551616) (hc : c < 18446744073709551616) (hz : wideB z = true) (hk : okS c L = true) (hy : ∀ es ∈ L, byN es) :
    hdC (ehB a b c z ++ runS (numS c L)) = ⟨a, b, c, z.toNat⟩ ∧ sgE (ehB a b c z ++ runS (numS c L)) = 0 ∧ sgB (ehB a b c z ++ runS (numS c L)) = numS c L ∧ sgU (ehB a b c z ++ runS (numS c L)) = 48 + (runS (numS c L)).length := by
  obtain ⟨h1, h2, R, g, h3, h4⟩ := seg_run [] ha hb hc hz hk hy
  rw [List.append_nil] at h1 h2 h3 h4
  have hl : 48 + (runS (numS c L)).length = (ehB a b c z ++ runS (numS c L)).length := by rw [List.length_append, ehB_len hz]
  have h5 : rdL g (ehB a b c z ++ runS (numS c L)) (ehB a b c z ++ runS (numS c L)).length (endS c L) = ([], (ehB a b c z ++ runS (numS c L)).length) := rdL_no (rb_end _ _)
  rw [hl, h5] at h4
  obtain ⟨rfl, h6⟩ := Prod.mk.inj h4
  exact ⟨h1, h2, by rw [h3, List.append_nil], by rw [h6, hl]⟩
theorem RdB.byN {w : World} {v : Value} {bs : List (Nat × List En)} (h : RdB w v bs) : ∀ es ∈ bs.map (·.2), byN es := by
  obtain ⟨ao, cap, ts, _, h2, _, _, h5, _⟩ := h
  intro es he
  rw [h2] at he
  simp only [List.map_map, List.mem_map] at he
  obtain ⟨t, ht, rfl⟩ := he
  exact (h5 t ht).byN
theorem atS_last : ∀ (n : Nat) (D : List (Nat × List En)), (n :: atS n D)[D.length]? = some (n + (runS D).length)
  | n, [] => by simp [runS]
  | n, t :: D => by
    rw [atS, List.length_cons, List.getElem?_cons_succ, atS_last _ D, runS_cons, List.length_append]
    simp [Nat.add_assoc]
end Go.Proofs.YtckkalmhekfnhaaGreatDoor
namespace Go.Proofs.YtckkalmhekfnhaaGreatDoor
open Go.RowKit Go.BigFrame
set_option linter.unusedVariables false
set_option linter.unusedSimpArgs false

theorem numS_take : ∀ (k i : Nat) (L : List (List En)), numS i (L.take k) = (numS i L).take k
  | 0, _, _ => by simp [numS]
  | k + 1, _, [] => by simp [numS]
  | k + 1, i, es :: L => by rw [List.take_succ_cons, numS, numS_take k _ L, numS, List.take_succ_cons]
theorem okS_take : ∀ (k i : Nat) (L : List (List En)), okS i L = true → okS i (L.take k) = true
  | 0, _, _, _ => by simp [okS]
  | k + 1, _, [], _ => by simp [okS]
  | k + 1, i, es :: L, h => by
    rw [okS, Bool.and_eq_true] at h
    rw [List.take_succ_cons, okS, h.1, okS_take k _ L h.2]
    rfl
theorem endS_take : ∀ (k i : Nat) (L : List (List En)) (h : k < L.length), (numS i L)[k]? = some (endS i (L.take k), L[k])
  | 0, i, es :: L, _ => by simp [numS, endS]
  | k + 1, i, es :: L, h => by
    have h' : k < L.length := by simpa using h
    rw [numS, List.getElem?_cons_succ, endS_take k _ L h', List.take_succ_cons, endS]
    simp
theorem okS_mem : ∀ (i : Nat) (L : List (List En)), okS i L = true → ∀ t ∈ numS i L, chkB t.1 t.2 = 0
  | _, [], _, t, ht => by simp [numS] at ht
  | i, es :: L, h, t, ht => by
    rw [okS, Bool.and_eq_true, decide_eq_true_eq] at h
    rw [numS, List.mem_cons] at ht
    rcases ht with rfl | ht
    · exact h.1
    · exact okS_mem _ L h.2 t ht
theorem atS_at : ∀ (k n : Nat) (D : List (Nat × List En)), k ≤ D.length → (n :: atS n D)[k]? = some (n + (runS (D.take k)).length)
  | 0, n, D, _ => by simp [runS]
  | k + 1, n, t :: D, h => by
    have h' : k ≤ D.length := by simpa using h
    rw [atS, List.getElem?_cons_succ, atS_at k _ D h', List.take_succ_cons, runS_cons, List.length_append]
    simp [Nat.add_assoc]
theorem run_take {E : List Nat} {D : List (Nat × List En)} {k : Nat} : (E ++ runS D).take (E.length + (runS (D.take k)).length) = E ++ runS (D.take k) := by
  have e : E ++ runS D = (E ++ runS (D.take k)) ++ runS (D.drop k) := by rw [List.append_assoc, ← runS_app, List.take_append_drop]
  rw [e, ← List.length_append, List.take_left]
theorem run_lt {D : List (Nat × List En)} {k : Nat} (hk : k < D.length) (h : chkB D[k].1 D[k].2 = 0) : (runS (D.take k)).length < (runS D).length := by
  have e : runS D = runS (D.take k) ++ (sbB D[k].1 D[k].2 ++ runS (D.drop (k + 1))) := by
    rw [← runS_cons, ← List.drop_eq_getElem_cons hk, ← runS_app, List.take_append_drop]
  rw [e, List.length_append, List.length_append, sbB_len h]
  omega
/-- A batch whose number is another ends the reading. -/
theorem seg_gap {a b c k f : Nat} {z : Int} {L : List (List En)} {es : List En} (rest : List Nat) (ha : a < 18446744073709551616) (hb : b < 18446744073709551616) (hc : c < 18446744073709551616) (hz : wideB z = true) (hk : okS c L = true) (hy : ∀ es ∈ L, byN es) (hl : k < L.length)
    (hf : f < 18446744073709551616) (hck : chkB f es = 0) (hby : byN es) (hne : f ≠ endS c (L.take k)) :
    hdC (ehB a b c z ++ (runS ((numS c L).take k) ++ (sbB f es ++ rest))) = ⟨a, b, c, z.toNat⟩ ∧ sgE (ehB a b c z ++ (runS ((numS c L).take k) ++ (sbB f es ++ rest))) = 0 ∧ sgB (ehB a b c z ++ (runS ((numS c L).take k) ++ (sbB f es ++ rest))) = (numS c L).take k ∧
      sgU (ehB a b c z ++ (runS ((numS c L).take k) ++ (sbB f es ++ rest))) = 48 + (runS ((numS c L).take k)).length := by
  obtain ⟨h1, h2, R, g, h3, h4⟩ := seg_run (L := L.take k) (sbB f es ++ rest) ha hb hc hz (okS_take k c L hk) (fun x hx => hy x (List.mem_of_mem_take hx))
  rw [numS_take] at h1 h2 h3 h4
  have hlen := batB_lenS hck hf
  have hsb : sbB f es = frB f (batB f es) := by unfold sbB; rw [if_pos hck]
  have hn := nextF_at (ehB a b c z ++ runS ((numS c L).take k)) f (batB f es) rest hf (by omega) (by omega) (batB_byte hby)
  rw [← hsb, List.append_assoc, List.length_append, ehB_len hz] at hn
  have hrb : rbOk (ehB a b c z ++ (runS ((numS c L).take k) ++ (sbB f es ++ rest))) ((48 + (runS ((numS c L).take k)).length : Nat) : Int) (endS c (L.take k)) = false := by
    unfold rbOk
    rw [hn]
    simp [hne]
  rw [rdL_no hrb] at h4
  obtain ⟨rfl, h6⟩ := Prod.mk.inj h4
  exact ⟨h1, h2, by rw [h3, List.append_nil], h6⟩
end Go.Proofs.YtckkalmhekfnhaaGreatDoor
namespace Go.Proofs.YtckkalmhekfnhaaGreatDoor
open Go.RowKit Go.BigFrame
set_option linter.unusedVariables false
set_option linter.unusedSimpArgs false

theorem firstF_zeros (m : Nat) : firstF (List.replicate m 0) = none := by
  have := firstF_torn 0 [] 0 m (by decide) (by decide) (by simp) (by simp)
  simpa using this
/-- Nothing without the whole head. -/
theorem seg_headless {a b c cut m : Nat} {z : Int} {R : List Nat} (ha : a < 18446744073709551616) (hz : wideB z = true) (hc : cut < 48) :
    hdC ((ehB a b c z ++ R).take cut ++ List.replicate m 0) = ⟨0, 0, 0, 0⟩ ∧ sgE ((ehB a b c z ++ R).take cut ++ List.replicate m 0) = 3 ∧ sgB ((ehB a b c z ++ R).take cut ++ List.replicate m 0) = [] ∧ sgU ((ehB a b c z ++ R).take cut ++ List.replicate m 0) = 0 := by
  have he : ehB a b c z = frB a (headB a b c z) := by simp [ehB, hz]
  have ht : (ehB a b c z ++ R).take cut = (frB a (headB a b c z)).take cut := by
    rw [List.take_append_of_le_length (by rw [ehB_len hz]; omega), he]
  have hf := firstF_torn a (headB a b c z) cut m ha (by rw [headB_len]; decide) (headB_byte a b c z) (by rw [headB_len]; omega)
  rw [← ht] at hf
  have hn : hdF ((ehB a b c z ++ R).take cut ++ List.replicate m 0) = none := by unfold hdF; rw [hf]
  refine ⟨by simp [hdC, hn], by simp [sgE, hn], by simp [sgB, hn], by simp [sgU, hn]⟩
theorem rb_none {p : List Nat} {n i : Nat} (hn : n ≤ p.length) (h : firstF (p.drop n) = none) : rbOk p (n : Nat) i = false := by
  unfold rbOk
  have : (nextF p (n : Nat)).kind ≠ 1 := by
    unfold nextF
    by_cases h1 : (n : Int) = p.length
    · rw [if_pos h1]; simp
    · rw [if_neg h1, if_neg (by omega), Int.toNat_natCast, h]; simp
  simp [this]
/-- A beginning, with noughts behind it: just the batches that are there whole. -/
theorem seg_torn {a b c cut m k : Nat} {z : Int} {L : List (List En)} (ha : a < 18446744073709551616) (hb : b < 18446744073709551616) (hc : c < 18446744073709551616) (hz : wideB z = true) (hk : okS c L = true) (hy : ∀ es ∈ L, byN es) (hkl : k ≤ (numS c L).length)
    (h1 : 48 + (runS ((numS c L).take k)).length ≤ cut) (h2 : k = (numS c L).length ∨ cut < 48 + (runS ((numS c L).take (k + 1))).length) :
    hdC ((ehB a b c z ++ runS (numS c L)).take cut ++ List.replicate m 0) = ⟨a, b, c, z.toNat⟩ ∧ sgE ((ehB a b c z ++ runS (numS c L)).take cut ++ List.replicate m 0) = 0 ∧ sgB ((ehB a b c z ++ runS (numS c L)).take cut ++ List.replicate m 0) = (numS c L).take k ∧
      sgU ((ehB a b c z ++ runS (numS c L)).take cut ++ List.replicate m 0) = 48 + (runS ((numS c L).take k)).length := by
  obtain ⟨D, hD⟩ : ∃ D, numS c L = D := ⟨_, rfl⟩
  have hmem := okS_mem c L hk
  have hsplit : ehB a b c z ++ runS D = (ehB a b c z ++ runS (D.take k)) ++ runS (D.drop k) := by rw [List.append_assoc, ← runS_app, List.take_append_drop]
  have hlen : (ehB a b c z ++ runS (D.take k)).length = 48 + (runS (D.take k)).length := by rw [List.length_append, ehB_len hz]
  rw [hD] at h1 h2 hkl hmem
  obtain ⟨q1, q2, R, g, q3, q4⟩ := seg_run (L := L.take k) ((runS (D.drop k)).take (cut - (48 + (runS (D.take k)).length)) ++ List.replicate m 0) ha hb hc hz (okS_take k c L hk) (fun x hx => hy x (List.mem_of_mem_take hx))
  rw [numS_take, hD] at q1 q2 q3 q4
  have hT : (ehB a b c z ++ runS D).take cut ++ List.replicate m 0 = ehB a b c z ++ (runS (D.take k) ++ ((runS (D.drop k)).take (cut - (48 + (runS (D.take k)).length)) ++ List.replicate m 0)) := by
    rw [hsplit, List.take_append, hlen, List.take_of_length_le (by rw [hlen]; exact h1)]
    simp only [List.append_assoc]
  have hnone : firstF ((runS (D.drop k)).take (cut - (48 + (runS (D.take k)).length)) ++ List.replicate m 0) = none := by
    by_cases hkD : k < D.length
    · have hck := hmem D[k] (List.getElem_mem _)
      have hcut : cut < 48 + (runS (D.take (k + 1))).length := by omega
      rw [List.take_add_one, List.getElem?_eq_getElem hkD] at hcut
      simp only [Option.toList_some] at hcut
      rw [runS_app, List.length_append, runS_one, sbB_len hck] at hcut
      have hfl : D[k].1 < 18446744073709551616 := by have := chkB_lt hck; omega
      have hbl := batB_lenS hck hfl
      have hby : byN D[k].2 := by
        have hkL : k < L.length := by rw [← numS_len c L, hD]; exact hkD
        have h9 := endS_take k c L hkL
        rw [hD, List.getElem?_eq_getElem hkD] at h9
        have h10 := congrArg Prod.snd (Option.some.inj h9)
        simp only at h10
        rw [h10]
        exact hy _ (List.getElem_mem _)
      have hsb : sbB D[k].1 D[k].2 = frB D[k].1 (batB D[k].1 D[k].2) := by unfold sbB; rw [if_pos hck]
      rw [List.drop_eq_getElem_cons hkD, runS_cons, List.take_append_of_le_length (by rw [sbB_len hck]; omega), hsb]
      exact firstF_torn _ _ _ m hfl (by omega) (batB_byte hby) (by omega)
    · rw [List.drop_eq_nil_of_le (by omega)]
      simp only [runS, List.flatMap_nil, List.take_nil, List.nil_append]
      exact firstF_zeros m
  have hrb : rbOk (ehB a b c z ++ (runS (D.take k) ++ ((runS (D.drop k)).take (cut - (48 + (runS (D.take k)).length)) ++ List.replicate m 0))) ((48 + (runS (D.take k)).length : Nat) : Int) (endS c (L.take k)) = false := by
    refine rb_none (by rw [← List.append_assoc, List.length_append, hlen]; omega) ?_
    rw [← List.append_assoc, ← hlen, List.drop_left, hlen]
    exact hnone
  rw [rdL_no hrb] at q4
  obtain ⟨rfl, q6⟩ := Prod.mk.inj q4
  rw [hD, hT]
  exact ⟨q1, q2, by rw [q3, List.append_nil], q6⟩
end Go.Proofs.YtckkalmhekfnhaaGreatDoor
/-
  Laws for drawn regions, by genreg.py. No program.
-/
namespace Go.Proofs.YtckkalmhekfnhaaGreatDoor
open Go Go.RowKit Go.BigFrame
set_option linter.unusedVariables false
set_option linter.unusedSimpArgs false
section
variable {P : Program} {Q : Exit → Act → World → Prop}
theorem wp_to13 {id : Nat} {o0 o1 o2 o3 o4 o5 o6 o7 o8 o9 o10 o11 o12 : Oper} {a : Act} {w : World} (hm : P.follows .mixedOrders = true) (hs : Region.noSelect #[o0, o1, o2, o3, o4, o5, o6, o7, o8, o9, o10, o11, o12] = true)
    (f0 : Region.free .any #[o0, o1, o2, o3, o4, o5, o6, o7, o8, o9, o10, o11, o12] #[false, false, false, false, false, false, false, false, false, false, false, false, false] 0 = true) (r0 : (Region.ready .any #[o0, o1, o2, o3, o4, o5, o6, o7, o8, o9, o10, o11, o12] #[false, false, false, false, false, false, false, false, false, false, false, false, false]).contains 0 = true)
    (f1 : Region.free .any #[o0, o1, o2, o3, o4, o5, o6, o7, o8, o9, o10, o11, o12] #[true, false, false, false, false, false, false, false, false, false, false, false, false] 1 = true) (r1 : (Region.ready .any #[o0, o1, o2, o3, o4, o5, o6, o7, o8, o9, o10, o11, o12] #[true, false, false, false, false, false, false, false, false, false, false, false, false]).contains 1 = true)
    (f2 : Region.free .any #[o0, o1, o2, o3, o4, o5, o6, o7, o8, o9, o10, o11, o12] #[true, true, false, false, false, false, false, false, false, false, false, false, false] 2 = true) (r2 : (Region.ready .any #[o0, o1, o2, o3, o4, o5, o6, o7, o8, o9, o10, o11, o12] #[true, true, false, false, false, false, false, false, false, false, false, false, false]).contains 2 = true)
    (f3 : Region.free .any #[o0, o1, o2, o3, o4, o5, o6, o7, o8, o9, o10, o11, o12] #[true, true, true, false, false, false, false, false, false, false, false, false, false] 3 = true) (r3 : (Region.ready .any #[o0, o1, o2, o3, o4, o5, o6, o7, o8, o9, o10, o11, o12] #[true, true, true, false, false, false, false, false, false, false, false, false, false]).contains 3 = true)
    (q_ : Region.ready .any #[o0, o1, o2, o3, o4, o5, o6, o7, o8, o9, o10, o11, o12] #[true, true, true, true, false, false, false, false, false, false, false, false, false] = [4, 10])
    (q4_ : Region.ready .any #[o0, o1, o2, o3, o4, o5, o6, o7, o8, o9, o10, o11, o12] #[true, true, true, true, true, false, false, false, false, false, false, false, false] = [5, 10])
    (q10_ : Region.ready .any #[o0, o1, o2, o3, o4, o5, o6, o7, o8, o9, o10, o11, o12] #[true, true, true, true, false, false, false, false, false, false, true, false, false] = [4])
    (q4_5_ : Region.ready .any #[o0, o1, o2, o3, o4, o5, o6, o7, o8, o9, o10, o11, o12] #[true, true, true, true, true, true, false, false, false, false, false, false, false] = [6, 10])
    (f4_5_6_7 : Region.free .any #[o0, o1, o2, o3, o4, o5, o6, o7, o8, o9, o10, o11, o12] #[true, true, true, true, true, true, true, false, false, false, false, false, false] 7 = true) (r4_5_6_7 : (Region.ready .any #[o0, o1, o2, o3, o4, o5, o6, o7, o8, o9, o10, o11, o12] #[true, true, true, true, true, true, true, false, false, false, false, false, false]).contains 7 = true)
    (f4_5_6_8 : Region.free .any #[o0, o1, o2, o3, o4, o5, o6, o7, o8, o9, o10, o11, o12] #[true, true, true, true, true, true, true, true, false, false, false, false, false] 8 = true) (r4_5_6_8 : (Region.ready .any #[o0, o1, o2, o3, o4, o5, o6, o7, o8, o9, o10, o11, o12] #[true, true, true, true, true, true, true, true, false, false, false, false, false]).contains 8 = true)
    (f4_5_6_9 : Region.free .any #[o0, o1, o2, o3, o4, o5, o6, o7, o8, o9, o10, o11, o12] #[true, true, true, true, true, true, true, true, true, false, false, false, false] 9 = true) (r4_5_6_9 : (Region.ready .any #[o0, o1, o2, o3, o4, o5, o6, o7, o8, o9, o10, o11, o12] #[true, true, true, true, true, true, true, true, true, false, false, false, false]).contains 9 = true)
    (q4_10_ : Region.ready .any #[o0, o1, o2, o3, o4, o5, o6, o7, o8, o9, o10, o11, o12] #[true, true, true, true, true, false, false, false, false, false, true, false, false] = [5])
    (q4_5_6_ : Region.ready .any #[o0, o1, o2, o3, o4, o5, o6, o7, o8, o9, o10, o11, o12] #[true, true, true, true, true, true, true, true, true, true, false, false, false] = [10])
    (q4_5_10_ : Region.ready .any #[o0, o1, o2, o3, o4, o5, o6, o7, o8, o9, o10, o11, o12] #[true, true, true, true, true, true, false, false, false, false, true, false, false] = [6])
    (f4_5_10_6_7 : Region.free .any #[o0, o1, o2, o3, o4, o5, o6, o7, o8, o9, o10, o11, o12] #[true, true, true, true, true, true, true, false, false, false, true, false, false] 7 = true) (r4_5_10_6_7 : (Region.ready .any #[o0, o1, o2, o3, o4, o5, o6, o7, o8, o9, o10, o11, o12] #[true, true, true, true, true, true, true, false, false, false, true, false, false]).contains 7 = true)
    (f4_5_10_6_8 : Region.free .any #[o0, o1, o2, o3, o4, o5, o6, o7, o8, o9, o10, o11, o12] #[true, true, true, true, true, true, true, true, false, false, true, false, false] 8 = true) (r4_5_10_6_8 : (Region.ready .any #[o0, o1, o2, o3, o4, o5, o6, o7, o8, o9, o10, o11, o12] #[true, true, true, true, true, true, true, true, false, false, true, false, false]).contains 8 = true)
    (f4_5_10_6_9 : Region.free .any #[o0, o1, o2, o3, o4, o5, o6, o7, o8, o9, o10, o11, o12] #[true, true, true, true, true, true, true, true, true, false, true, false, false] 9 = true) (r4_5_10_6_9 : (Region.ready .any #[o0, o1, o2, o3, o4, o5, o6, o7, o8, o9, o10, o11, o12] #[true, true, true, true, true, true, true, true, true, false, true, false, false]).contains 9 = true)
    (q4_5_6_10_ : Region.ready .any #[o0, o1, o2, o3, o4, o5, o6, o7, o8, o9, o10, o11, o12] #[true, true, true, true, true, true, true, true, true, true, true, false, false] = [11])
    (f4_5_6_10_11_12 : Region.free .any #[o0, o1, o2, o3, o4, o5, o6, o7, o8, o9, o10, o11, o12] #[true, true, true, true, true, true, true, true, true, true, true, true, false] 12 = true) (r4_5_6_10_11_12 : (Region.ready .any #[o0, o1, o2, o3, o4, o5, o6, o7, o8, o9, o10, o11, o12] #[true, true, true, true, true, true, true, true, true, true, true, true, false]).contains 12 = true)
    (q4_5_6_10_11_ : Region.ready .any #[o0, o1, o2, o3, o4, o5, o6, o7, o8, o9, o10, o11, o12] #[true, true, true, true, true, true, true, true, true, true, true, true, true] = [])
    (g4 : o4.guard = none)    (g5 : o5.guard = none)    (g6 : o6.guard = none)    (g10 : o10.guard = none)    (g11 : o11.guard = none)
    (ne10_4 : ∀ d, o10.dst = some d → o4.dst ≠ some d)
    (ne10_5 : ∀ d, o10.dst = some d → o5.dst ≠ some d)
    (ne10_6 : ∀ d, o10.dst = some d → o6.dst ≠ some d)
    (ne10_7 : ∀ d, o10.dst = some d → o7.dst ≠ some d)
    (ne10_8 : ∀ d, o10.dst = some d → o8.dst ≠ some d)
    (ne10_9 : ∀ d, o10.dst = some d → o9.dst ≠ some d)
    (v0 v1 v2 v3 : Value) (A0 A1 A2 A3 : Act)
    (S : World → Prop)
    (I_ : World → Prop)
    (I4_ : Value → World → Prop)
    (I10_ : Value → World → Prop)
    (I4_5_ : Value → Value → World → Prop)
    (I4_10_ : Value → Value → World → Prop)
    (I4_5_6_ : Value → Value → Value → World → Prop)
    (I4_5_10_ : Value → Value → Value → World → Prop)
    (I4_5_6_10_ : Value → Value → Value → Value → World → Prop)
    (I4_5_6_10_11_ : Value → Value → Value → Value → Value → World → Prop)
    (v7 : Value → Value → Value → Value)
    (v8 : Value → Value → Value → Value)
    (v9 : Value → Value → Value → Value)
    (v12 : Value → Value → Value → Value → Value → Value)
    (p0 : a.put o0.dst v0 = A0) (hy0 : YieldsIf P #[o0, o1, o2, o3, o4, o5, o6, o7, o8, o9, o10, o11, o12] S o0 v0 a)
    (p1 : A0.put o1.dst v1 = A1) (hy1 : YieldsIf P #[o0, o1, o2, o3, o4, o5, o6, o7, o8, o9, o10, o11, o12] S o1 v1 A0)
    (p2 : A1.put o2.dst v2 = A2) (hy2 : YieldsIf P #[o0, o1, o2, o3, o4, o5, o6, o7, o8, o9, o10, o11, o12] S o2 v2 A1)
    (p3 : A2.put o3.dst v3 = A3) (hy3 : YieldsIf P #[o0, o1, o2, o3, o4, o5, o6, o7, o8, o9, o10, o11, o12] S o3 v3 A2)
    (i0 : I_ w.drew)
    (hIS : (∀ w', I_  w' → S w') ∧ (∀ (u4 : Value) w', I4_ u4 w' → S w') ∧ (∀ (u10 : Value) w', I10_ u10 w' → S w') ∧ (∀ (u4 u5 : Value) w', I4_5_ u4 u5 w' → S w') ∧ (∀ (u4 u10 : Value) w', I4_10_ u4 u10 w' → S w') ∧ (∀ (u4 u5 u6 : Value) w', I4_5_6_ u4 u5 u6 w' → S w') ∧ (∀ (u4 u5 u10 : Value) w', I4_5_10_ u4 u5 u10 w' → S w') ∧ (∀ (u4 u5 u6 u10 : Value) w', I4_5_6_10_ u4 u5 u6 u10 w' → S w') ∧ (∀ (u4 u5 u6 u10 u11 : Value) w', I4_5_6_10_11_ u4 u5 u6 u10 u11 w' → S w'))
    (s_4 : ∀ w', I_  w' → ∀ K : Act → World → Prop, (∀ (u4 : Value) w2, I4_ u4 w2 → K (A3.put o4.dst u4) w2) → o4.wp P A3 w' K (NoPanic Q))
    (s_10 : ∀ w', I_  w' → ∀ K : Act → World → Prop, (∀ (u10 : Value) w2, I10_ u10 w2 → K (A3.put o10.dst u10) w2) → o10.wp P A3 w' K (NoPanic Q))
    (s4_5 : ∀ (u4 : Value) w', I4_ u4 w' → ∀ K : Act → World → Prop, (∀ (u5 : Value) w2, I4_5_ u4 u5 w2 → K ((A3.put o4.dst u4).put o5.dst u5) w2) → o5.wp P (A3.put o4.dst u4) w' K (NoPanic Q))
    (s4_10 : ∀ (u4 : Value) w', I4_ u4 w' → ∀ K : Act → World → Prop, (∀ (u10 : Value) w2, I4_10_ u4 u10 w2 → K ((A3.put o4.dst u4).put o10.dst u10) w2) → o10.wp P (A3.put o4.dst u4) w' K (NoPanic Q))
    (s10_4 : ∀ (u10 : Value) w', I10_ u10 w' → ∀ K : Act → World → Prop, (∀ (u4 : Value) w2, I4_10_ u4 u10 w2 → K ((A3.put o10.dst u10).put o4.dst u4) w2) → o4.wp P (A3.put o10.dst u10) w' K (NoPanic Q))
    (s4_5_6 : ∀ (u4 u5 : Value) w', I4_5_ u4 u5 w' → ∀ K : Act → World → Prop, (∀ (u6 : Value) w2, I4_5_6_ u4 u5 u6 w2 → K (((A3.put o4.dst u4).put o5.dst u5).put o6.dst u6) w2) → o6.wp P ((A3.put o4.dst u4).put o5.dst u5) w' K (NoPanic Q))
    (s4_5_10 : ∀ (u4 u5 : Value) w', I4_5_ u4 u5 w' → ∀ K : Act → World → Prop, (∀ (u10 : Value) w2, I4_5_10_ u4 u5 u10 w2 → K (((A3.put o4.dst u4).put o5.dst u5).put o10.dst u10) w2) → o10.wp P ((A3.put o4.dst u4).put o5.dst u5) w' K (NoPanic Q))
    (s4_10_5 : ∀ (u4 u10 : Value) w', I4_10_ u4 u10 w' → ∀ K : Act → World → Prop, (∀ (u5 : Value) w2, I4_5_10_ u4 u5 u10 w2 → K (((A3.put o4.dst u4).put o10.dst u10).put o5.dst u5) w2) → o5.wp P ((A3.put o4.dst u4).put o10.dst u10) w' K (NoPanic Q))
    (s4_5_6_10 : ∀ (u4 u5 u6 : Value) w', I4_5_6_ u4 u5 u6 w' → ∀ K : Act → World → Prop, (∀ (u10 : Value) w2, I4_5_6_10_ u4 u5 u6 u10 w2 → K (((((((A3.put o4.dst u4).put o5.dst u5).put o6.dst u6).put o7.dst (v7 u4 u5 u6)).put o8.dst (v8 u4 u5 u6)).put o9.dst (v9 u4 u5 u6)).put o10.dst u10) w2) → o10.wp P ((((((A3.put o4.dst u4).put o5.dst u5).put o6.dst u6).put o7.dst (v7 u4 u5 u6)).put o8.dst (v8 u4 u5 u6)).put o9.dst (v9 u4 u5 u6)) w' K (NoPanic Q))
    (s4_5_10_6 : ∀ (u4 u5 u10 : Value) w', I4_5_10_ u4 u5 u10 w' → ∀ K : Act → World → Prop, (∀ (u6 : Value) w2, I4_5_6_10_ u4 u5 u6 u10 w2 → K ((((A3.put o4.dst u4).put o5.dst u5).put o10.dst u10).put o6.dst u6) w2) → o6.wp P (((A3.put o4.dst u4).put o5.dst u5).put o10.dst u10) w' K (NoPanic Q))
    (s4_5_6_10_11 : ∀ (u4 u5 u6 u10 : Value) w', I4_5_6_10_ u4 u5 u6 u10 w' → ∀ K : Act → World → Prop, (∀ (u11 : Value) w2, I4_5_6_10_11_ u4 u5 u6 u10 u11 w2 → K ((((((((A3.put o4.dst u4).put o5.dst u5).put o6.dst u6).put o7.dst (v7 u4 u5 u6)).put o8.dst (v8 u4 u5 u6)).put o9.dst (v9 u4 u5 u6)).put o10.dst u10).put o11.dst u11) w2) → o11.wp P (((((((A3.put o4.dst u4).put o5.dst u5).put o6.dst u6).put o7.dst (v7 u4 u5 u6)).put o8.dst (v8 u4 u5 u6)).put o9.dst (v9 u4 u5 u6)).put o10.dst u10) w' K (NoPanic Q))
    (y4_5_6_7 : ∀ (u4 u5 u6 : Value) w', I4_5_6_ u4 u5 u6 w' → YieldsIf P #[o0, o1, o2, o3, o4, o5, o6, o7, o8, o9, o10, o11, o12] S o7 (v7 u4 u5 u6) (((A3.put o4.dst u4).put o5.dst u5).put o6.dst u6))
    (y4_5_6_8 : ∀ (u4 u5 u6 : Value) w', I4_5_6_ u4 u5 u6 w' → YieldsIf P #[o0, o1, o2, o3, o4, o5, o6, o7, o8, o9, o10, o11, o12] S o8 (v8 u4 u5 u6) ((((A3.put o4.dst u4).put o5.dst u5).put o6.dst u6).put o7.dst (v7 u4 u5 u6)))
    (y4_5_6_9 : ∀ (u4 u5 u6 : Value) w', I4_5_6_ u4 u5 u6 w' → YieldsIf P #[o0, o1, o2, o3, o4, o5, o6, o7, o8, o9, o10, o11, o12] S o9 (v9 u4 u5 u6) (((((A3.put o4.dst u4).put o5.dst u5).put o6.dst u6).put o7.dst (v7 u4 u5 u6)).put o8.dst (v8 u4 u5 u6)))
    (y4_5_10_6_7 : ∀ (u4 u5 u6 u10 : Value) w', I4_5_6_10_ u4 u5 u6 u10 w' → YieldsIf P #[o0, o1, o2, o3, o4, o5, o6, o7, o8, o9, o10, o11, o12] S o7 (v7 u4 u5 u6) ((((A3.put o4.dst u4).put o5.dst u5).put o6.dst u6).put o10.dst u10))
    (y4_5_10_6_8 : ∀ (u4 u5 u6 u10 : Value) w', I4_5_6_10_ u4 u5 u6 u10 w' → YieldsIf P #[o0, o1, o2, o3, o4, o5, o6, o7, o8, o9, o10, o11, o12] S o8 (v8 u4 u5 u6) (((((A3.put o4.dst u4).put o5.dst u5).put o6.dst u6).put o7.dst (v7 u4 u5 u6)).put o10.dst u10))
    (y4_5_10_6_9 : ∀ (u4 u5 u6 u10 : Value) w', I4_5_6_10_ u4 u5 u6 u10 w' → YieldsIf P #[o0, o1, o2, o3, o4, o5, o6, o7, o8, o9, o10, o11, o12] S o9 (v9 u4 u5 u6) ((((((A3.put o4.dst u4).put o5.dst u5).put o6.dst u6).put o7.dst (v7 u4 u5 u6)).put o8.dst (v8 u4 u5 u6)).put o10.dst u10))
    (y4_5_6_10_11_12 : ∀ (u4 u5 u6 u10 u11 : Value) w', I4_5_6_10_11_ u4 u5 u6 u10 u11 w' → YieldsIf P #[o0, o1, o2, o3, o4, o5, o6, o7, o8, o9, o10, o11, o12] S o12 (v12 u4 u5 u6 u10 u11) ((((((((A3.put o4.dst u4).put o5.dst u5).put o6.dst u6).put o7.dst (v7 u4 u5 u6)).put o8.dst (v8 u4 u5 u6)).put o9.dst (v9 u4 u5 u6)).put o10.dst u10).put o11.dst u11))
    (h : ∀ (u4 u5 u6 u10 u11 : Value) w', I4_5_6_10_11_ u4 u5 u6 u10 u11 w' → Q .normal (((((((((A3.put o4.dst u4).put o5.dst u5).put o6.dst u6).put o7.dst (v7 u4 u5 u6)).put o8.dst (v8 u4 u5 u6)).put o9.dst (v9 u4 u5 u6)).put o10.dst u10).put o11.dst u11).put o12.dst (v12 u4 u5 u6 u10 u11)) w') :
    (Code.region id #[o0, o1, o2, o3, o4, o5, o6, o7, o8, o9, o10, o11, o12] true).wp P Q a w := by
  subst p0 p1 p2 p3
  obtain ⟨z_, z4_, z10_, z4_5_, z4_10_, z4_5_6_, z4_5_10_, z4_5_6_10_, z4_5_6_10_11_⟩ := hIS
  refine wp_region_noPanic ?_
  refine wp_region_held_drew (S := S) hm (z_ _ i0) (fun hH => ?_)
  show wpAnyH P .any #[o0, o1, o2, o3, o4, o5, o6, o7, o8, o9, o10, o11, o12] (NoPanic Q) S 13 #[false, false, false, false, false, false, false, false, false, false, false, false, false] a w.drew
  refine wpAnyH_take (i := 0) (oi := o0) rfl hs f0 r0 (fun _ _ _ h => h) hy0 hH ?_
  refine wpAnyH_take (i := 1) (oi := o1) rfl hs f1 r1 (fun _ _ _ h => h) hy1 hH ?_
  refine wpAnyH_take (i := 2) (oi := o2) rfl hs f2 r2 (fun _ _ _ h => h) hy2 hH ?_
  refine wpAnyH_take (i := 3) (oi := o3) rfl hs f3 r3 (fun _ _ _ h => h) hy3 hH ?_
  generalize ((((a.put o0.dst v0).put o1.dst v1).put o2.dst v2).put o3.dst v3) = B at *
  have wa4 : ∀ y, Region.wanted o4 y = true := fun y => by unfold Region.wanted; rw [g4]
  have wa5 : ∀ y, Region.wanted o5 y = true := fun y => by unfold Region.wanted; rw [g5]
  have wa6 : ∀ y, Region.wanted o6 y = true := fun y => by unfold Region.wanted; rw [g6]
  have wa10 : ∀ y, Region.wanted o10 y = true := fun y => by unfold Region.wanted; rw [g10]
  have wa11 : ∀ y, Region.wanted o11 y = true := fun y => by unfold Region.wanted; rw [g11]
  have t4_5_6_10_11_ : ∀ (u4 u5 u6 u10 u11 : Value) w', I4_5_6_10_11_ u4 u5 u6 u10 u11 w' → wpAnyH P .any #[o0, o1, o2, o3, o4, o5, o6, o7, o8, o9, o10, o11, o12] (NoPanic Q) S 0 #[true, true, true, true, true, true, true, true, true, true, true, true, true] (((((((((B.put o4.dst u4).put o5.dst u5).put o6.dst u6).put o7.dst (v7 u4 u5 u6)).put o8.dst (v8 u4 u5 u6)).put o9.dst (v9 u4 u5 u6)).put o10.dst u10).put o11.dst u11).put o12.dst (v12 u4 u5 u6 u10 u11)) w' := by
    intro u4 u5 u6 u10 u11 w0 i0
    exact ⟨q4_5_6_10_11_, NoPanic.normal (h u4 u5 u6 u10 u11 w0 i0)⟩
  have t4_5_6_10_ : ∀ (u4 u5 u6 u10 : Value) w', I4_5_6_10_ u4 u5 u6 u10 w' → wpAnyH P .any #[o0, o1, o2, o3, o4, o5, o6, o7, o8, o9, o10, o11, o12] (NoPanic Q) S 2 #[true, true, true, true, true, true, true, true, true, true, true, false, false] (((((((B.put o4.dst u4).put o5.dst u5).put o6.dst u6).put o7.dst (v7 u4 u5 u6)).put o8.dst (v8 u4 u5 u6)).put o9.dst (v9 u4 u5 u6)).put o10.dst u10) w' := by
    intro u4 u5 u6 u10 w0 i0
    refine wpAnyH_ready (rs := [11]) q4_5_6_10_ (by simp) (AllReadyH.cons (o := o11) rfl (fun K hK => ?_) AllReadyH.nil)
    · rw [if_pos (wa11 _)]
      refine s4_5_6_10_11 u4 u5 u6 u10 w0 i0 K (fun u11 w1 i1 => hK.out _ _ (z4_5_6_10_11_ u4 u5 u6 u10 u11 w1 i1) (fun _ => ?_))
      clear hK
      refine wpAnyH_take (i := 12) (oi := o12) rfl hs f4_5_6_10_11_12 r4_5_6_10_11_12 (fun _ _ _ h => h) (y4_5_6_10_11_12 u4 u5 u6 u10 u11 w1 i1) (z4_5_6_10_11_ u4 u5 u6 u10 u11 w1 i1) ?_
      exact t4_5_6_10_11_ u4 u5 u6 u10 u11 w1 i1
  have t4_5_10_ : ∀ (u4 u5 u10 : Value) w', I4_5_10_ u4 u5 u10 w' → wpAnyH P .any #[o0, o1, o2, o3, o4, o5, o6, o7, o8, o9, o10, o11, o12] (NoPanic Q) S 6 #[true, true, true, true, true, true, false, false, false, false, true, false, false] (((B.put o4.dst u4).put o5.dst u5).put o10.dst u10) w' := by
    intro u4 u5 u10 w0 i0
    refine wpAnyH_ready (rs := [6]) q4_5_10_ (by simp) (AllReadyH.cons (o := o6) rfl (fun K hK => ?_) AllReadyH.nil)
    · rw [if_pos (wa6 _)]
      refine s4_5_10_6 u4 u5 u10 w0 i0 K (fun u6 w1 i1 => hK.out _ _ (z4_5_6_10_ u4 u5 u6 u10 w1 i1) (fun _ => ?_))
      clear hK
      rw [Act.put_comm _ _ _ ne10_6]
      refine wpAnyH_take (i := 7) (oi := o7) rfl hs f4_5_10_6_7 r4_5_10_6_7 (fun _ _ _ h => h) (y4_5_10_6_7 u4 u5 u6 u10 w1 i1) (z4_5_6_10_ u4 u5 u6 u10 w1 i1) ?_
      rw [Act.put_comm _ _ _ ne10_7]
      refine wpAnyH_take (i := 8) (oi := o8) rfl hs f4_5_10_6_8 r4_5_10_6_8 (fun _ _ _ h => h) (y4_5_10_6_8 u4 u5 u6 u10 w1 i1) (z4_5_6_10_ u4 u5 u6 u10 w1 i1) ?_
      rw [Act.put_comm _ _ _ ne10_8]
      refine wpAnyH_take (i := 9) (oi := o9) rfl hs f4_5_10_6_9 r4_5_10_6_9 (fun _ _ _ h => h) (y4_5_10_6_9 u4 u5 u6 u10 w1 i1) (z4_5_6_10_ u4 u5 u6 u10 w1 i1) ?_
      rw [Act.put_comm _ _ _ ne10_9]
      exact t4_5_6_10_ u4 u5 u6 u10 w1 i1
  have t4_5_6_ : ∀ (u4 u5 u6 : Value) w', I4_5_6_ u4 u5 u6 w' → wpAnyH P .any #[o0, o1, o2, o3, o4, o5, o6, o7, o8, o9, o10, o11, o12] (NoPanic Q) S 3 #[true, true, true, true, true, true, true, true, true, true, false, false, false] ((((((B.put o4.dst u4).put o5.dst u5).put o6.dst u6).put o7.dst (v7 u4 u5 u6)).put o8.dst (v8 u4 u5 u6)).put o9.dst (v9 u4 u5 u6)) w' := by
    intro u4 u5 u6 w0 i0
    refine wpAnyH_ready (rs := [10]) q4_5_6_ (by simp) (AllReadyH.cons (o := o10) rfl (fun K hK => ?_) AllReadyH.nil)
    · rw [if_pos (wa10 _)]
      refine s4_5_6_10 u4 u5 u6 w0 i0 K (fun u10 w1 i1 => hK.out _ _ (z4_5_6_10_ u4 u5 u6 u10 w1 i1) (fun _ => ?_))
      clear hK
      exact t4_5_6_10_ u4 u5 u6 u10 w1 i1
  have t4_10_ : ∀ (u4 u10 : Value) w', I4_10_ u4 u10 w' → wpAnyH P .any #[o0, o1, o2, o3, o4, o5, o6, o7, o8, o9, o10, o11, o12] (NoPanic Q) S 7 #[true, true, true, true, true, false, false, false, false, false, true, false, false] ((B.put o4.dst u4).put o10.dst u10) w' := by
    intro u4 u10 w0 i0
    refine wpAnyH_ready (rs := [5]) q4_10_ (by simp) (AllReadyH.cons (o := o5) rfl (fun K hK => ?_) AllReadyH.nil)
    · rw [if_pos (wa5 _)]
      refine s4_10_5 u4 u10 w0 i0 K (fun u5 w1 i1 => hK.out _ _ (z4_5_10_ u4 u5 u10 w1 i1) (fun _ => ?_))
      clear hK
      rw [Act.put_comm _ _ _ ne10_5]
      exact t4_5_10_ u4 u5 u10 w1 i1
  have t4_5_ : ∀ (u4 u5 : Value) w', I4_5_ u4 u5 w' → wpAnyH P .any #[o0, o1, o2, o3, o4, o5, o6, o7, o8, o9, o10, o11, o12] (NoPanic Q) S 7 #[true, true, true, true, true, true, false, false, false, false, false, false, false] ((B.put o4.dst u4).put o5.dst u5) w' := by
    intro u4 u5 w0 i0
    refine wpAnyH_ready (rs := [6, 10]) q4_5_ (by simp) (AllReadyH.cons (o := o6) rfl (fun K hK => ?_) (AllReadyH.cons (o := o10) rfl (fun K hK => ?_) AllReadyH.nil))
    · rw [if_pos (wa6 _)]
      refine s4_5_6 u4 u5 w0 i0 K (fun u6 w1 i1 => hK.out _ _ (z4_5_6_ u4 u5 u6 w1 i1) (fun _ => ?_))
      clear hK
      refine wpAnyH_take (i := 7) (oi := o7) rfl hs f4_5_6_7 r4_5_6_7 (fun _ _ _ h => h) (y4_5_6_7 u4 u5 u6 w1 i1) (z4_5_6_ u4 u5 u6 w1 i1) ?_
      refine wpAnyH_take (i := 8) (oi := o8) rfl hs f4_5_6_8 r4_5_6_8 (fun _ _ _ h => h) (y4_5_6_8 u4 u5 u6 w1 i1) (z4_5_6_ u4 u5 u6 w1 i1) ?_
      refine wpAnyH_take (i := 9) (oi := o9) rfl hs f4_5_6_9 r4_5_6_9 (fun _ _ _ h => h) (y4_5_6_9 u4 u5 u6 w1 i1) (z4_5_6_ u4 u5 u6 w1 i1) ?_
      exact t4_5_6_ u4 u5 u6 w1 i1
    · rw [if_pos (wa10 _)]
      refine s4_5_10 u4 u5 w0 i0 K (fun u10 w1 i1 => hK.out _ _ (z4_5_10_ u4 u5 u10 w1 i1) (fun _ => ?_))
      clear hK
      exact t4_5_10_ u4 u5 u10 w1 i1
  have t10_ : ∀ (u10 : Value) w', I10_ u10 w' → wpAnyH P .any #[o0, o1, o2, o3, o4, o5, o6, o7, o8, o9, o10, o11, o12] (NoPanic Q) S 8 #[true, true, true, true, false, false, false, false, false, false, true, false, false] (B.put o10.dst u10) w' := by
    intro u10 w0 i0
    refine wpAnyH_ready (rs := [4]) q10_ (by simp) (AllReadyH.cons (o := o4) rfl (fun K hK => ?_) AllReadyH.nil)
    · rw [if_pos (wa4 _)]
      refine s10_4 u10 w0 i0 K (fun u4 w1 i1 => hK.out _ _ (z4_10_ u4 u10 w1 i1) (fun _ => ?_))
      clear hK
      rw [Act.put_comm _ _ _ ne10_4]
      exact t4_10_ u4 u10 w1 i1
  have t4_ : ∀ (u4 : Value) w', I4_ u4 w' → wpAnyH P .any #[o0, o1, o2, o3, o4, o5, o6, o7, o8, o9, o10, o11, o12] (NoPanic Q) S 8 #[true, true, true, true, true, false, false, false, false, false, false, false, false] (B.put o4.dst u4) w' := by
    intro u4 w0 i0
    refine wpAnyH_ready (rs := [5, 10]) q4_ (by simp) (AllReadyH.cons (o := o5) rfl (fun K hK => ?_) (AllReadyH.cons (o := o10) rfl (fun K hK => ?_) AllReadyH.nil))
    · rw [if_pos (wa5 _)]
      refine s4_5 u4 w0 i0 K (fun u5 w1 i1 => hK.out _ _ (z4_5_ u4 u5 w1 i1) (fun _ => ?_))
      clear hK
      exact t4_5_ u4 u5 w1 i1
    · rw [if_pos (wa10 _)]
      refine s4_10 u4 w0 i0 K (fun u10 w1 i1 => hK.out _ _ (z4_10_ u4 u10 w1 i1) (fun _ => ?_))
      clear hK
      exact t4_10_ u4 u10 w1 i1
  have t_ : ∀ w', I_  w' → wpAnyH P .any #[o0, o1, o2, o3, o4, o5, o6, o7, o8, o9, o10, o11, o12] (NoPanic Q) S 9 #[true, true, true, true, false, false, false, false, false, false, false, false, false] B w' := by
    intro w0 i0
    refine wpAnyH_ready (rs := [4, 10]) q_ (by simp) (AllReadyH.cons (o := o4) rfl (fun K hK => ?_) (AllReadyH.cons (o := o10) rfl (fun K hK => ?_) AllReadyH.nil))
    · rw [if_pos (wa4 _)]
      refine s_4  w0 i0 K (fun u4 w1 i1 => hK.out _ _ (z4_ u4 w1 i1) (fun _ => ?_))
      clear hK
      exact t4_ u4 w1 i1
    · rw [if_pos (wa10 _)]
      refine s_10  w0 i0 K (fun u10 w1 i1 => hK.out _ _ (z10_ u10 w1 i1) (fun _ => ?_))
      clear hK
      exact t10_ u10 w1 i1
  exact t_ w.drew i0

end
end Go.Proofs.YtckkalmhekfnhaaGreatDoor
/-
  Laws for drawn regions, by genreg.py. No program.
-/
namespace Go.Proofs.YtckkalmhekfnhaaGreatDoor
open Go Go.RowKit Go.BigFrame
set_option linter.unusedVariables false
set_option linter.unusedSimpArgs false
section
variable {P : Program} {Q : Exit → Act → World → Prop}
theorem wp_gp22 {id : Nat} {o0 o1 o2 o3 o4 o5 o6 o7 o8 o9 o10 o11 o12 o13 o14 o15 o16 o17 o18 o19 o20 o21 : Oper} {a : Act} {w : World} (hm : P.follows .mixedOrders = true) (hs : Region.noSelect #[o0, o1, o2, o3, o4, o5, o6, o7, o8, o9, o10, o11, o12, o13, o14, o15, o16, o17, o18, o19, o20, o21] = true)
    (f0 : Region.free .any #[o0, o1, o2, o3, o4, o5, o6, o7, o8, o9, o10, o11, o12, o13, o14, o15, o16, o17, o18, o19, o20, o21] #[false, false, false, false, false, false, false, false, false, false, false, false, false, false, false, false, false, false, false, false, false, false] 0 = true) (r0 : (Region.ready .any #[o0, o1, o2, o3, o4, o5, o6, o7, o8, o9, o10, o11, o12, o13, o14, o15, o16, o17, o18, o19, o20, o21] #[false, false, false, false, false, false, false, false, false, false, false, false, false, false, false, false, false, false, false, false, false, false]).contains 0 = true)
    (f1 : Region.free .any #[o0, o1, o2, o3, o4, o5, o6, o7, o8, o9, o10, o11, o12, o13, o14, o15, o16, o17, o18, o19, o20, o21] #[true, false, false, false, false, false, false, false, false, false, false, false, false, false, false, false, false, false, false, false, false, false] 1 = true) (r1 : (Region.ready .any #[o0, o1, o2, o3, o4, o5, o6, o7, o8, o9, o10, o11, o12, o13, o14, o15, o16, o17, o18, o19, o20, o21] #[true, false, false, false, false, false, false, false, false, false, false, false, false, false, false, false, false, false, false, false, false, false]).contains 1 = true)
    (f2 : Region.free .any #[o0, o1, o2, o3, o4, o5, o6, o7, o8, o9, o10, o11, o12, o13, o14, o15, o16, o17, o18, o19, o20, o21] #[true, true, false, false, false, false, false, false, false, false, false, false, false, false, false, false, false, false, false, false, false, false] 2 = true) (r2 : (Region.ready .any #[o0, o1, o2, o3, o4, o5, o6, o7, o8, o9, o10, o11, o12, o13, o14, o15, o16, o17, o18, o19, o20, o21] #[true, true, false, false, false, false, false, false, false, false, false, false, false, false, false, false, false, false, false, false, false, false]).contains 2 = true)
    (f3 : Region.free .any #[o0, o1, o2, o3, o4, o5, o6, o7, o8, o9, o10, o11, o12, o13, o14, o15, o16, o17, o18, o19, o20, o21] #[true, true, true, false, false, false, false, false, false, false, false, false, false, false, false, false, false, false, false, false, false, false] 3 = true) (r3 : (Region.ready .any #[o0, o1, o2, o3, o4, o5, o6, o7, o8, o9, o10, o11, o12, o13, o14, o15, o16, o17, o18, o19, o20, o21] #[true, true, true, false, false, false, false, false, false, false, false, false, false, false, false, false, false, false, false, false, false, false]).contains 3 = true)
    (f4 : Region.free .any #[o0, o1, o2, o3, o4, o5, o6, o7, o8, o9, o10, o11, o12, o13, o14, o15, o16, o17, o18, o19, o20, o21] #[true, true, true, true, false, false, false, false, false, false, false, false, false, false, false, false, false, false, false, false, false, false] 4 = true) (r4 : (Region.ready .any #[o0, o1, o2, o3, o4, o5, o6, o7, o8, o9, o10, o11, o12, o13, o14, o15, o16, o17, o18, o19, o20, o21] #[true, true, true, true, false, false, false, false, false, false, false, false, false, false, false, false, false, false, false, false, false, false]).contains 4 = true)
    (f5 : Region.free .any #[o0, o1, o2, o3, o4, o5, o6, o7, o8, o9, o10, o11, o12, o13, o14, o15, o16, o17, o18, o19, o20, o21] #[true, true, true, true, true, false, false, false, false, false, false, false, false, false, false, false, false, false, false, false, false, false] 5 = true) (r5 : (Region.ready .any #[o0, o1, o2, o3, o4, o5, o6, o7, o8, o9, o10, o11, o12, o13, o14, o15, o16, o17, o18, o19, o20, o21] #[true, true, true, true, true, false, false, false, false, false, false, false, false, false, false, false, false, false, false, false, false, false]).contains 5 = true)
    (f6 : Region.free .any #[o0, o1, o2, o3, o4, o5, o6, o7, o8, o9, o10, o11, o12, o13, o14, o15, o16, o17, o18, o19, o20, o21] #[true, true, true, true, true, true, false, false, false, false, false, false, false, false, false, false, false, false, false, false, false, false] 6 = true) (r6 : (Region.ready .any #[o0, o1, o2, o3, o4, o5, o6, o7, o8, o9, o10, o11, o12, o13, o14, o15, o16, o17, o18, o19, o20, o21] #[true, true, true, true, true, true, false, false, false, false, false, false, false, false, false, false, false, false, false, false, false, false]).contains 6 = true)
    (f7 : Region.free .any #[o0, o1, o2, o3, o4, o5, o6, o7, o8, o9, o10, o11, o12, o13, o14, o15, o16, o17, o18, o19, o20, o21] #[true, true, true, true, true, true, true, false, false, false, false, false, false, false, false, false, false, false, false, false, false, false] 7 = true) (r7 : (Region.ready .any #[o0, o1, o2, o3, o4, o5, o6, o7, o8, o9, o10, o11, o12, o13, o14, o15, o16, o17, o18, o19, o20, o21] #[true, true, true, true, true, true, true, false, false, false, false, false, false, false, false, false, false, false, false, false, false, false]).contains 7 = true)
    (f8 : Region.free .any #[o0, o1, o2, o3, o4, o5, o6, o7, o8, o9, o10, o11, o12, o13, o14, o15, o16, o17, o18, o19, o20, o21] #[true, true, true, true, true, true, true, true, false, false, false, false, false, false, false, false, false, false, false, false, false, false] 8 = true) (r8 : (Region.ready .any #[o0, o1, o2, o3, o4, o5, o6, o7, o8, o9, o10, o11, o12, o13, o14, o15, o16, o17, o18, o19, o20, o21] #[true, true, true, true, true, true, true, true, false, false, false, false, false, false, false, false, false, false, false, false, false, false]).contains 8 = true)
    (f9 : Region.free .any #[o0, o1, o2, o3, o4, o5, o6, o7, o8, o9, o10, o11, o12, o13, o14, o15, o16, o17, o18, o19, o20, o21] #[true, true, true, true, true, true, true, true, true, false, false, false, false, false, false, false, false, false, false, false, false, false] 9 = true) (r9 : (Region.ready .any #[o0, o1, o2, o3, o4, o5, o6, o7, o8, o9, o10, o11, o12, o13, o14, o15, o16, o17, o18, o19, o20, o21] #[true, true, true, true, true, true, true, true, true, false, false, false, false, false, false, false, false, false, false, false, false, false]).contains 9 = true)
    (f10 : Region.free .any #[o0, o1, o2, o3, o4, o5, o6, o7, o8, o9, o10, o11, o12, o13, o14, o15, o16, o17, o18, o19, o20, o21] #[true, true, true, true, true, true, true, true, true, true, false, false, false, false, false, false, false, false, false, false, false, false] 10 = true) (r10 : (Region.ready .any #[o0, o1, o2, o3, o4, o5, o6, o7, o8, o9, o10, o11, o12, o13, o14, o15, o16, o17, o18, o19, o20, o21] #[true, true, true, true, true, true, true, true, true, true, false, false, false, false, false, false, false, false, false, false, false, false]).contains 10 = true)
    (f11 : Region.free .any #[o0, o1, o2, o3, o4, o5, o6, o7, o8, o9, o10, o11, o12, o13, o14, o15, o16, o17, o18, o19, o20, o21] #[true, true, true, true, true, true, true, true, true, true, true, false, false, false, false, false, false, false, false, false, false, false] 11 = true) (r11 : (Region.ready .any #[o0, o1, o2, o3, o4, o5, o6, o7, o8, o9, o10, o11, o12, o13, o14, o15, o16, o17, o18, o19, o20, o21] #[true, true, true, true, true, true, true, true, true, true, true, false, false, false, false, false, false, false, false, false, false, false]).contains 11 = true)
    (f12 : Region.free .any #[o0, o1, o2, o3, o4, o5, o6, o7, o8, o9, o10, o11, o12, o13, o14, o15, o16, o17, o18, o19, o20, o21] #[true, true, true, true, true, true, true, true, true, true, true, true, false, false, false, false, false, false, false, false, false, false] 12 = true) (r12 : (Region.ready .any #[o0, o1, o2, o3, o4, o5, o6, o7, o8, o9, o10, o11, o12, o13, o14, o15, o16, o17, o18, o19, o20, o21] #[true, true, true, true, true, true, true, true, true, true, true, true, false, false, false, false, false, false, false, false, false, false]).contains 12 = true)
    (q_ : Region.ready .any #[o0, o1, o2, o3, o4, o5, o6, o7, o8, o9, o10, o11, o12, o13, o14, o15, o16, o17, o18, o19, o20, o21] #[true, true, true, true, true, true, true, true, true, true, true, true, true, false, false, false, false, false, false, false, false, false] = [13, 19])
    (q13_ : Region.ready .any #[o0, o1, o2, o3, o4, o5, o6, o7, o8, o9, o10, o11, o12, o13, o14, o15, o16, o17, o18, o19, o20, o21] #[true, true, true, true, true, true, true, true, true, true, true, true, true, true, false, false, false, false, false, false, false, false] = [14, 19])
    (q19_ : Region.ready .any #[o0, o1, o2, o3, o4, o5, o6, o7, o8, o9, o10, o11, o12, o13, o14, o15, o16, o17, o18, o19, o20, o21] #[true, true, true, true, true, true, true, true, true, true, true, true, true, false, false, false, false, false, false, true, false, false] = [13])
    (q13_14_ : Region.ready .any #[o0, o1, o2, o3, o4, o5, o6, o7, o8, o9, o10, o11, o12, o13, o14, o15, o16, o17, o18, o19, o20, o21] #[true, true, true, true, true, true, true, true, true, true, true, true, true, true, true, false, false, false, false, false, false, false] = [15, 19])
    (f13_14_15_16 : Region.free .any #[o0, o1, o2, o3, o4, o5, o6, o7, o8, o9, o10, o11, o12, o13, o14, o15, o16, o17, o18, o19, o20, o21] #[true, true, true, true, true, true, true, true, true, true, true, true, true, true, true, true, false, false, false, false, false, false] 16 = true) (r13_14_15_16 : (Region.ready .any #[o0, o1, o2, o3, o4, o5, o6, o7, o8, o9, o10, o11, o12, o13, o14, o15, o16, o17, o18, o19, o20, o21] #[true, true, true, true, true, true, true, true, true, true, true, true, true, true, true, true, false, false, false, false, false, false]).contains 16 = true)
    (f13_14_15_17 : Region.free .any #[o0, o1, o2, o3, o4, o5, o6, o7, o8, o9, o10, o11, o12, o13, o14, o15, o16, o17, o18, o19, o20, o21] #[true, true, true, true, true, true, true, true, true, true, true, true, true, true, true, true, true, false, false, false, false, false] 17 = true) (r13_14_15_17 : (Region.ready .any #[o0, o1, o2, o3, o4, o5, o6, o7, o8, o9, o10, o11, o12, o13, o14, o15, o16, o17, o18, o19, o20, o21] #[true, true, true, true, true, true, true, true, true, true, true, true, true, true, true, true, true, false, false, false, false, false]).contains 17 = true)
    (f13_14_15_18 : Region.free .any #[o0, o1, o2, o3, o4, o5, o6, o7, o8, o9, o10, o11, o12, o13, o14, o15, o16, o17, o18, o19, o20, o21] #[true, true, true, true, true, true, true, true, true, true, true, true, true, true, true, true, true, true, false, false, false, false] 18 = true) (r13_14_15_18 : (Region.ready .any #[o0, o1, o2, o3, o4, o5, o6, o7, o8, o9, o10, o11, o12, o13, o14, o15, o16, o17, o18, o19, o20, o21] #[true, true, true, true, true, true, true, true, true, true, true, true, true, true, true, true, true, true, false, false, false, false]).contains 18 = true)
    (q13_19_ : Region.ready .any #[o0, o1, o2, o3, o4, o5, o6, o7, o8, o9, o10, o11, o12, o13, o14, o15, o16, o17, o18, o19, o20, o21] #[true, true, true, true, true, true, true, true, true, true, true, true, true, true, false, false, false, false, false, true, false, false] = [14])
    (q13_14_15_ : Region.ready .any #[o0, o1, o2, o3, o4, o5, o6, o7, o8, o9, o10, o11, o12, o13, o14, o15, o16, o17, o18, o19, o20, o21] #[true, true, true, true, true, true, true, true, true, true, true, true, true, true, true, true, true, true, true, false, false, false] = [19])
    (q13_14_19_ : Region.ready .any #[o0, o1, o2, o3, o4, o5, o6, o7, o8, o9, o10, o11, o12, o13, o14, o15, o16, o17, o18, o19, o20, o21] #[true, true, true, true, true, true, true, true, true, true, true, true, true, true, true, false, false, false, false, true, false, false] = [15])
    (f13_14_19_15_16 : Region.free .any #[o0, o1, o2, o3, o4, o5, o6, o7, o8, o9, o10, o11, o12, o13, o14, o15, o16, o17, o18, o19, o20, o21] #[true, true, true, true, true, true, true, true, true, true, true, true, true, true, true, true, false, false, false, true, false, false] 16 = true) (r13_14_19_15_16 : (Region.ready .any #[o0, o1, o2, o3, o4, o5, o6, o7, o8, o9, o10, o11, o12, o13, o14, o15, o16, o17, o18, o19, o20, o21] #[true, true, true, true, true, true, true, true, true, true, true, true, true, true, true, true, false, false, false, true, false, false]).contains 16 = true)
    (f13_14_19_15_17 : Region.free .any #[o0, o1, o2, o3, o4, o5, o6, o7, o8, o9, o10, o11, o12, o13, o14, o15, o16, o17, o18, o19, o20, o21] #[true, true, true, true, true, true, true, true, true, true, true, true, true, true, true, true, true, false, false, true, false, false] 17 = true) (r13_14_19_15_17 : (Region.ready .any #[o0, o1, o2, o3, o4, o5, o6, o7, o8, o9, o10, o11, o12, o13, o14, o15, o16, o17, o18, o19, o20, o21] #[true, true, true, true, true, true, true, true, true, true, true, true, true, true, true, true, true, false, false, true, false, false]).contains 17 = true)
    (f13_14_19_15_18 : Region.free .any #[o0, o1, o2, o3, o4, o5, o6, o7, o8, o9, o10, o11, o12, o13, o14, o15, o16, o17, o18, o19, o20, o21] #[true, true, true, true, true, true, true, true, true, true, true, true, true, true, true, true, true, true, false, true, false, false] 18 = true) (r13_14_19_15_18 : (Region.ready .any #[o0, o1, o2, o3, o4, o5, o6, o7, o8, o9, o10, o11, o12, o13, o14, o15, o16, o17, o18, o19, o20, o21] #[true, true, true, true, true, true, true, true, true, true, true, true, true, true, true, true, true, true, false, true, false, false]).contains 18 = true)
    (q13_14_15_19_ : Region.ready .any #[o0, o1, o2, o3, o4, o5, o6, o7, o8, o9, o10, o11, o12, o13, o14, o15, o16, o17, o18, o19, o20, o21] #[true, true, true, true, true, true, true, true, true, true, true, true, true, true, true, true, true, true, true, true, false, false] = [20])
    (f13_14_15_19_20_21 : Region.free .any #[o0, o1, o2, o3, o4, o5, o6, o7, o8, o9, o10, o11, o12, o13, o14, o15, o16, o17, o18, o19, o20, o21] #[true, true, true, true, true, true, true, true, true, true, true, true, true, true, true, true, true, true, true, true, true, false] 21 = true) (r13_14_15_19_20_21 : (Region.ready .any #[o0, o1, o2, o3, o4, o5, o6, o7, o8, o9, o10, o11, o12, o13, o14, o15, o16, o17, o18, o19, o20, o21] #[true, true, true, true, true, true, true, true, true, true, true, true, true, true, true, true, true, true, true, true, true, false]).contains 21 = true)
    (q13_14_15_19_20_ : Region.ready .any #[o0, o1, o2, o3, o4, o5, o6, o7, o8, o9, o10, o11, o12, o13, o14, o15, o16, o17, o18, o19, o20, o21] #[true, true, true, true, true, true, true, true, true, true, true, true, true, true, true, true, true, true, true, true, true, true] = [])
    (g13 : o13.guard = none)    (g14 : o14.guard = none)    (g15 : o15.guard = none)    (g19 : o19.guard = none)    (g20 : o20.guard = none)
    (ne19_13 : ∀ d, o19.dst = some d → o13.dst ≠ some d)
    (ne19_14 : ∀ d, o19.dst = some d → o14.dst ≠ some d)
    (ne19_15 : ∀ d, o19.dst = some d → o15.dst ≠ some d)
    (ne19_16 : ∀ d, o19.dst = some d → o16.dst ≠ some d)
    (ne19_17 : ∀ d, o19.dst = some d → o17.dst ≠ some d)
    (ne19_18 : ∀ d, o19.dst = some d → o18.dst ≠ some d)
    (v0 v1 v2 v3 v4 v5 v6 v7 v8 v9 v10 v11 v12 : Value) (A0 A1 A2 A3 A4 A5 A6 A7 A8 A9 A10 A11 A12 : Act)
    (S : World → Prop)
    (I_ : World → Prop)
    (I13_ : Value → World → Prop)
    (I19_ : Value → World → Prop)
    (I13_14_ : Value → Value → World → Prop)
    (I13_19_ : Value → Value → World → Prop)
    (I13_14_15_ : Value → Value → Value → World → Prop)
    (I13_14_19_ : Value → Value → Value → World → Prop)
    (I13_14_15_19_ : Value → Value → Value → Value → World → Prop)
    (I13_14_15_19_20_ : Value → Value → Value → Value → Value → World → Prop)
    (v16 : Value → Value → Value → Value)
    (v17 : Value → Value → Value → Value)
    (v18 : Value → Value → Value → Value)
    (v21 : Value → Value → Value → Value → Value → Value)
    (p0 : a.put o0.dst v0 = A0) (hy0 : YieldsIf P #[o0, o1, o2, o3, o4, o5, o6, o7, o8, o9, o10, o11, o12, o13, o14, o15, o16, o17, o18, o19, o20, o21] S o0 v0 a)
    (p1 : A0.put o1.dst v1 = A1) (hy1 : YieldsIf P #[o0, o1, o2, o3, o4, o5, o6, o7, o8, o9, o10, o11, o12, o13, o14, o15, o16, o17, o18, o19, o20, o21] S o1 v1 A0)
    (p2 : A1.put o2.dst v2 = A2) (hy2 : YieldsIf P #[o0, o1, o2, o3, o4, o5, o6, o7, o8, o9, o10, o11, o12, o13, o14, o15, o16, o17, o18, o19, o20, o21] S o2 v2 A1)
    (p3 : A2.put o3.dst v3 = A3) (hy3 : YieldsIf P #[o0, o1, o2, o3, o4, o5, o6, o7, o8, o9, o10, o11, o12, o13, o14, o15, o16, o17, o18, o19, o20, o21] S o3 v3 A2)
    (p4 : A3.put o4.dst v4 = A4) (hy4 : YieldsIf P #[o0, o1, o2, o3, o4, o5, o6, o7, o8, o9, o10, o11, o12, o13, o14, o15, o16, o17, o18, o19, o20, o21] S o4 v4 A3)
    (p5 : A4.put o5.dst v5 = A5) (hy5 : YieldsIf P #[o0, o1, o2, o3, o4, o5, o6, o7, o8, o9, o10, o11, o12, o13, o14, o15, o16, o17, o18, o19, o20, o21] S o5 v5 A4)
    (p6 : A5.put o6.dst v6 = A6) (hy6 : YieldsIf P #[o0, o1, o2, o3, o4, o5, o6, o7, o8, o9, o10, o11, o12, o13, o14, o15, o16, o17, o18, o19, o20, o21] S o6 v6 A5)
    (p7 : A6.put o7.dst v7 = A7) (hy7 : YieldsIf P #[o0, o1, o2, o3, o4, o5, o6, o7, o8, o9, o10, o11, o12, o13, o14, o15, o16, o17, o18, o19, o20, o21] S o7 v7 A6)
    (p8 : A7.put o8.dst v8 = A8) (hy8 : YieldsIf P #[o0, o1, o2, o3, o4, o5, o6, o7, o8, o9, o10, o11, o12, o13, o14, o15, o16, o17, o18, o19, o20, o21] S o8 v8 A7)
    (p9 : A8.put o9.dst v9 = A9) (hy9 : YieldsIf P #[o0, o1, o2, o3, o4, o5, o6, o7, o8, o9, o10, o11, o12, o13, o14, o15, o16, o17, o18, o19, o20, o21] S o9 v9 A8)
    (p10 : A9.put o10.dst v10 = A10) (hy10 : YieldsIf P #[o0, o1, o2, o3, o4, o5, o6, o7, o8, o9, o10, o11, o12, o13, o14, o15, o16, o17, o18, o19, o20, o21] S o10 v10 A9)
    (p11 : A10.put o11.dst v11 = A11) (hy11 : YieldsIf P #[o0, o1, o2, o3, o4, o5, o6, o7, o8, o9, o10, o11, o12, o13, o14, o15, o16, o17, o18, o19, o20, o21] S o11 v11 A10)
    (p12 : A11.put o12.dst v12 = A12) (hy12 : YieldsIf P #[o0, o1, o2, o3, o4, o5, o6, o7, o8, o9, o10, o11, o12, o13, o14, o15, o16, o17, o18, o19, o20, o21] S o12 v12 A11)
    (i0 : I_ w.drew)
    (hIS : (∀ w', I_  w' → S w') ∧ (∀ (u13 : Value) w', I13_ u13 w' → S w') ∧ (∀ (u19 : Value) w', I19_ u19 w' → S w') ∧ (∀ (u13 u14 : Value) w', I13_14_ u13 u14 w' → S w') ∧ (∀ (u13 u19 : Value) w', I13_19_ u13 u19 w' → S w') ∧ (∀ (u13 u14 u15 : Value) w', I13_14_15_ u13 u14 u15 w' → S w') ∧ (∀ (u13 u14 u19 : Value) w', I13_14_19_ u13 u14 u19 w' → S w') ∧ (∀ (u13 u14 u15 u19 : Value) w', I13_14_15_19_ u13 u14 u15 u19 w' → S w') ∧ (∀ (u13 u14 u15 u19 u20 : Value) w', I13_14_15_19_20_ u13 u14 u15 u19 u20 w' → S w'))
    (s_13 : ∀ w', I_  w' → ∀ K : Act → World → Prop, (∀ (u13 : Value) w2, I13_ u13 w2 → K (A12.put o13.dst u13) w2) → o13.wp P A12 w' K (NoPanic Q))
    (s_19 : ∀ w', I_  w' → ∀ K : Act → World → Prop, (∀ (u19 : Value) w2, I19_ u19 w2 → K (A12.put o19.dst u19) w2) → o19.wp P A12 w' K (NoPanic Q))
    (s13_14 : ∀ (u13 : Value) w', I13_ u13 w' → ∀ K : Act → World → Prop, (∀ (u14 : Value) w2, I13_14_ u13 u14 w2 → K ((A12.put o13.dst u13).put o14.dst u14) w2) → o14.wp P (A12.put o13.dst u13) w' K (NoPanic Q))
    (s13_19 : ∀ (u13 : Value) w', I13_ u13 w' → ∀ K : Act → World → Prop, (∀ (u19 : Value) w2, I13_19_ u13 u19 w2 → K ((A12.put o13.dst u13).put o19.dst u19) w2) → o19.wp P (A12.put o13.dst u13) w' K (NoPanic Q))
    (s19_13 : ∀ (u19 : Value) w', I19_ u19 w' → ∀ K : Act → World → Prop, (∀ (u13 : Value) w2, I13_19_ u13 u19 w2 → K ((A12.put o19.dst u19).put o13.dst u13) w2) → o13.wp P (A12.put o19.dst u19) w' K (NoPanic Q))
    (s13_14_15 : ∀ (u13 u14 : Value) w', I13_14_ u13 u14 w' → ∀ K : Act → World → Prop, (∀ (u15 : Value) w2, I13_14_15_ u13 u14 u15 w2 → K (((A12.put o13.dst u13).put o14.dst u14).put o15.dst u15) w2) → o15.wp P ((A12.put o13.dst u13).put o14.dst u14) w' K (NoPanic Q))
    (s13_14_19 : ∀ (u13 u14 : Value) w', I13_14_ u13 u14 w' → ∀ K : Act → World → Prop, (∀ (u19 : Value) w2, I13_14_19_ u13 u14 u19 w2 → K (((A12.put o13.dst u13).put o14.dst u14).put o19.dst u19) w2) → o19.wp P ((A12.put o13.dst u13).put o14.dst u14) w' K (NoPanic Q))
    (s13_19_14 : ∀ (u13 u19 : Value) w', I13_19_ u13 u19 w' → ∀ K : Act → World → Prop, (∀ (u14 : Value) w2, I13_14_19_ u13 u14 u19 w2 → K (((A12.put o13.dst u13).put o19.dst u19).put o14.dst u14) w2) → o14.wp P ((A12.put o13.dst u13).put o19.dst u19) w' K (NoPanic Q))
    (s13_14_15_19 : ∀ (u13 u14 u15 : Value) w', I13_14_15_ u13 u14 u15 w' → ∀ K : Act → World → Prop, (∀ (u19 : Value) w2, I13_14_15_19_ u13 u14 u15 u19 w2 → K (((((((A12.put o13.dst u13).put o14.dst u14).put o15.dst u15).put o16.dst (v16 u13 u14 u15)).put o17.dst (v17 u13 u14 u15)).put o18.dst (v18 u13 u14 u15)).put o19.dst u19) w2) → o19.wp P ((((((A12.put o13.dst u13).put o14.dst u14).put o15.dst u15).put o16.dst (v16 u13 u14 u15)).put o17.dst (v17 u13 u14 u15)).put o18.dst (v18 u13 u14 u15)) w' K (NoPanic Q))
    (s13_14_19_15 : ∀ (u13 u14 u19 : Value) w', I13_14_19_ u13 u14 u19 w' → ∀ K : Act → World → Prop, (∀ (u15 : Value) w2, I13_14_15_19_ u13 u14 u15 u19 w2 → K ((((A12.put o13.dst u13).put o14.dst u14).put o19.dst u19).put o15.dst u15) w2) → o15.wp P (((A12.put o13.dst u13).put o14.dst u14).put o19.dst u19) w' K (NoPanic Q))
    (s13_14_15_19_20 : ∀ (u13 u14 u15 u19 : Value) w', I13_14_15_19_ u13 u14 u15 u19 w' → ∀ K : Act → World → Prop, (∀ (u20 : Value) w2, I13_14_15_19_20_ u13 u14 u15 u19 u20 w2 → K ((((((((A12.put o13.dst u13).put o14.dst u14).put o15.dst u15).put o16.dst (v16 u13 u14 u15)).put o17.dst (v17 u13 u14 u15)).put o18.dst (v18 u13 u14 u15)).put o19.dst u19).put o20.dst u20) w2) → o20.wp P (((((((A12.put o13.dst u13).put o14.dst u14).put o15.dst u15).put o16.dst (v16 u13 u14 u15)).put o17.dst (v17 u13 u14 u15)).put o18.dst (v18 u13 u14 u15)).put o19.dst u19) w' K (NoPanic Q))
    (y13_14_15_16 : ∀ (u13 u14 u15 : Value) w', I13_14_15_ u13 u14 u15 w' → YieldsIf P #[o0, o1, o2, o3, o4, o5, o6, o7, o8, o9, o10, o11, o12, o13, o14, o15, o16, o17, o18, o19, o20, o21] S o16 (v16 u13 u14 u15) (((A12.put o13.dst u13).put o14.dst u14).put o15.dst u15))
    (y13_14_15_17 : ∀ (u13 u14 u15 : Value) w', I13_14_15_ u13 u14 u15 w' → YieldsIf P #[o0, o1, o2, o3, o4, o5, o6, o7, o8, o9, o10, o11, o12, o13, o14, o15, o16, o17, o18, o19, o20, o21] S o17 (v17 u13 u14 u15) ((((A12.put o13.dst u13).put o14.dst u14).put o15.dst u15).put o16.dst (v16 u13 u14 u15)))
    (y13_14_15_18 : ∀ (u13 u14 u15 : Value) w', I13_14_15_ u13 u14 u15 w' → YieldsIf P #[o0, o1, o2, o3, o4, o5, o6, o7, o8, o9, o10, o11, o12, o13, o14, o15, o16, o17, o18, o19, o20, o21] S o18 (v18 u13 u14 u15) (((((A12.put o13.dst u13).put o14.dst u14).put o15.dst u15).put o16.dst (v16 u13 u14 u15)).put o17.dst (v17 u13 u14 u15)))
    (y13_14_19_15_16 : ∀ (u13 u14 u15 u19 : Value) w', I13_14_15_19_ u13 u14 u15 u19 w' → YieldsIf P #[o0, o1, o2, o3, o4, o5, o6, o7, o8, o9, o10, o11, o12, o13, o14, o15, o16, o17, o18, o19, o20, o21] S o16 (v16 u13 u14 u15) ((((A12.put o13.dst u13).put o14.dst u14).put o15.dst u15).put o19.dst u19))
    (y13_14_19_15_17 : ∀ (u13 u14 u15 u19 : Value) w', I13_14_15_19_ u13 u14 u15 u19 w' → YieldsIf P #[o0, o1, o2, o3, o4, o5, o6, o7, o8, o9, o10, o11, o12, o13, o14, o15, o16, o17, o18, o19, o20, o21] S o17 (v17 u13 u14 u15) (((((A12.put o13.dst u13).put o14.dst u14).put o15.dst u15).put o16.dst (v16 u13 u14 u15)).put o19.dst u19))
    (y13_14_19_15_18 : ∀ (u13 u14 u15 u19 : Value) w', I13_14_15_19_ u13 u14 u15 u19 w' → YieldsIf P #[o0, o1, o2, o3, o4, o5, o6, o7, o8, o9, o10, o11, o12, o13, o14, o15, o16, o17, o18, o19, o20, o21] S o18 (v18 u13 u14 u15) ((((((A12.put o13.dst u13).put o14.dst u14).put o15.dst u15).put o16.dst (v16 u13 u14 u15)).put o17.dst (v17 u13 u14 u15)).put o19.dst u19))
    (y13_14_15_19_20_21 : ∀ (u13 u14 u15 u19 u20 : Value) w', I13_14_15_19_20_ u13 u14 u15 u19 u20 w' → YieldsIf P #[o0, o1, o2, o3, o4, o5, o6, o7, o8, o9, o10, o11, o12, o13, o14, o15, o16, o17, o18, o19, o20, o21] S o21 (v21 u13 u14 u15 u19 u20) ((((((((A12.put o13.dst u13).put o14.dst u14).put o15.dst u15).put o16.dst (v16 u13 u14 u15)).put o17.dst (v17 u13 u14 u15)).put o18.dst (v18 u13 u14 u15)).put o19.dst u19).put o20.dst u20))
    (h : ∀ (u13 u14 u15 u19 u20 : Value) w', I13_14_15_19_20_ u13 u14 u15 u19 u20 w' → Q .normal (((((((((A12.put o13.dst u13).put o14.dst u14).put o15.dst u15).put o16.dst (v16 u13 u14 u15)).put o17.dst (v17 u13 u14 u15)).put o18.dst (v18 u13 u14 u15)).put o19.dst u19).put o20.dst u20).put o21.dst (v21 u13 u14 u15 u19 u20)) w') :
    (Code.region id #[o0, o1, o2, o3, o4, o5, o6, o7, o8, o9, o10, o11, o12, o13, o14, o15, o16, o17, o18, o19, o20, o21] true).wp P Q a w := by
  subst p0 p1 p2 p3 p4 p5 p6 p7 p8 p9 p10 p11 p12
  obtain ⟨z_, z13_, z19_, z13_14_, z13_19_, z13_14_15_, z13_14_19_, z13_14_15_19_, z13_14_15_19_20_⟩ := hIS
  refine wp_region_noPanic ?_
  refine wp_region_held_drew (S := S) hm (z_ _ i0) (fun hH => ?_)
  show wpAnyH P .any #[o0, o1, o2, o3, o4, o5, o6, o7, o8, o9, o10, o11, o12, o13, o14, o15, o16, o17, o18, o19, o20, o21] (NoPanic Q) S 22 #[false, false, false, false, false, false, false, false, false, false, false, false, false, false, false, false, false, false, false, false, false, false] a w.drew
  refine wpAnyH_take (i := 0) (oi := o0) rfl hs f0 r0 (fun _ _ _ h => h) hy0 hH ?_
  refine wpAnyH_take (i := 1) (oi := o1) rfl hs f1 r1 (fun _ _ _ h => h) hy1 hH ?_
  refine wpAnyH_take (i := 2) (oi := o2) rfl hs f2 r2 (fun _ _ _ h => h) hy2 hH ?_
  refine wpAnyH_take (i := 3) (oi := o3) rfl hs f3 r3 (fun _ _ _ h => h) hy3 hH ?_
  refine wpAnyH_take (i := 4) (oi := o4) rfl hs f4 r4 (fun _ _ _ h => h) hy4 hH ?_
  refine wpAnyH_take (i := 5) (oi := o5) rfl hs f5 r5 (fun _ _ _ h => h) hy5 hH ?_
  refine wpAnyH_take (i := 6) (oi := o6) rfl hs f6 r6 (fun _ _ _ h => h) hy6 hH ?_
  refine wpAnyH_take (i := 7) (oi := o7) rfl hs f7 r7 (fun _ _ _ h => h) hy7 hH ?_
  refine wpAnyH_take (i := 8) (oi := o8) rfl hs f8 r8 (fun _ _ _ h => h) hy8 hH ?_
  refine wpAnyH_take (i := 9) (oi := o9) rfl hs f9 r9 (fun _ _ _ h => h) hy9 hH ?_
  refine wpAnyH_take (i := 10) (oi := o10) rfl hs f10 r10 (fun _ _ _ h => h) hy10 hH ?_
  refine wpAnyH_take (i := 11) (oi := o11) rfl hs f11 r11 (fun _ _ _ h => h) hy11 hH ?_
  refine wpAnyH_take (i := 12) (oi := o12) rfl hs f12 r12 (fun _ _ _ h => h) hy12 hH ?_
  generalize (((((((((((((a.put o0.dst v0).put o1.dst v1).put o2.dst v2).put o3.dst v3).put o4.dst v4).put o5.dst v5).put o6.dst v6).put o7.dst v7).put o8.dst v8).put o9.dst v9).put o10.dst v10).put o11.dst v11).put o12.dst v12) = B at *
  have wa13 : ∀ y, Region.wanted o13 y = true := fun y => by unfold Region.wanted; rw [g13]
  have wa14 : ∀ y, Region.wanted o14 y = true := fun y => by unfold Region.wanted; rw [g14]
  have wa15 : ∀ y, Region.wanted o15 y = true := fun y => by unfold Region.wanted; rw [g15]
  have wa19 : ∀ y, Region.wanted o19 y = true := fun y => by unfold Region.wanted; rw [g19]
  have wa20 : ∀ y, Region.wanted o20 y = true := fun y => by unfold Region.wanted; rw [g20]
  have t13_14_15_19_20_ : ∀ (u13 u14 u15 u19 u20 : Value) w', I13_14_15_19_20_ u13 u14 u15 u19 u20 w' → wpAnyH P .any #[o0, o1, o2, o3, o4, o5, o6, o7, o8, o9, o10, o11, o12, o13, o14, o15, o16, o17, o18, o19, o20, o21] (NoPanic Q) S 0 #[true, true, true, true, true, true, true, true, true, true, true, true, true, true, true, true, true, true, true, true, true, true] (((((((((B.put o13.dst u13).put o14.dst u14).put o15.dst u15).put o16.dst (v16 u13 u14 u15)).put o17.dst (v17 u13 u14 u15)).put o18.dst (v18 u13 u14 u15)).put o19.dst u19).put o20.dst u20).put o21.dst (v21 u13 u14 u15 u19 u20)) w' := by
    intro u13 u14 u15 u19 u20 w0 i0
    exact ⟨q13_14_15_19_20_, NoPanic.normal (h u13 u14 u15 u19 u20 w0 i0)⟩
  have t13_14_15_19_ : ∀ (u13 u14 u15 u19 : Value) w', I13_14_15_19_ u13 u14 u15 u19 w' → wpAnyH P .any #[o0, o1, o2, o3, o4, o5, o6, o7, o8, o9, o10, o11, o12, o13, o14, o15, o16, o17, o18, o19, o20, o21] (NoPanic Q) S 2 #[true, true, true, true, true, true, true, true, true, true, true, true, true, true, true, true, true, true, true, true, false, false] (((((((B.put o13.dst u13).put o14.dst u14).put o15.dst u15).put o16.dst (v16 u13 u14 u15)).put o17.dst (v17 u13 u14 u15)).put o18.dst (v18 u13 u14 u15)).put o19.dst u19) w' := by
    intro u13 u14 u15 u19 w0 i0
    refine wpAnyH_ready (rs := [20]) q13_14_15_19_ (by simp) (AllReadyH.cons (o := o20) rfl (fun K hK => ?_) AllReadyH.nil)
    · rw [if_pos (wa20 _)]
      refine s13_14_15_19_20 u13 u14 u15 u19 w0 i0 K (fun u20 w1 i1 => hK.out _ _ (z13_14_15_19_20_ u13 u14 u15 u19 u20 w1 i1) (fun _ => ?_))
      clear hK
      refine wpAnyH_take (i := 21) (oi := o21) rfl hs f13_14_15_19_20_21 r13_14_15_19_20_21 (fun _ _ _ h => h) (y13_14_15_19_20_21 u13 u14 u15 u19 u20 w1 i1) (z13_14_15_19_20_ u13 u14 u15 u19 u20 w1 i1) ?_
      exact t13_14_15_19_20_ u13 u14 u15 u19 u20 w1 i1
  have t13_14_19_ : ∀ (u13 u14 u19 : Value) w', I13_14_19_ u13 u14 u19 w' → wpAnyH P .any #[o0, o1, o2, o3, o4, o5, o6, o7, o8, o9, o10, o11, o12, o13, o14, o15, o16, o17, o18, o19, o20, o21] (NoPanic Q) S 6 #[true, true, true, true, true, true, true, true, true, true, true, true, true, true, true, false, false, false, false, true, false, false] (((B.put o13.dst u13).put o14.dst u14).put o19.dst u19) w' := by
    intro u13 u14 u19 w0 i0
    refine wpAnyH_ready (rs := [15]) q13_14_19_ (by simp) (AllReadyH.cons (o := o15) rfl (fun K hK => ?_) AllReadyH.nil)
    · rw [if_pos (wa15 _)]
      refine s13_14_19_15 u13 u14 u19 w0 i0 K (fun u15 w1 i1 => hK.out _ _ (z13_14_15_19_ u13 u14 u15 u19 w1 i1) (fun _ => ?_))
      clear hK
      rw [Act.put_comm _ _ _ ne19_15]
      refine wpAnyH_take (i := 16) (oi := o16) rfl hs f13_14_19_15_16 r13_14_19_15_16 (fun _ _ _ h => h) (y13_14_19_15_16 u13 u14 u15 u19 w1 i1) (z13_14_15_19_ u13 u14 u15 u19 w1 i1) ?_
      rw [Act.put_comm _ _ _ ne19_16]
      refine wpAnyH_take (i := 17) (oi := o17) rfl hs f13_14_19_15_17 r13_14_19_15_17 (fun _ _ _ h => h) (y13_14_19_15_17 u13 u14 u15 u19 w1 i1) (z13_14_15_19_ u13 u14 u15 u19 w1 i1) ?_
      rw [Act.put_comm _ _ _ ne19_17]
      refine wpAnyH_take (i := 18) (oi := o18) rfl hs f13_14_19_15_18 r13_14_19_15_18 (fun _ _ _ h => h) (y13_14_19_15_18 u13 u14 u15 u19 w1 i1) (z13_14_15_19_ u13 u14 u15 u19 w1 i1) ?_
      rw [Act.put_comm _ _ _ ne19_18]
      exact t13_14_15_19_ u13 u14 u15 u19 w1 i1
  have t13_14_15_ : ∀ (u13 u14 u15 : Value) w', I13_14_15_ u13 u14 u15 w' → wpAnyH P .any #[o0, o1, o2, o3, o4, o5, o6, o7, o8, o9, o10, o11, o12, o13, o14, o15, o16, o17, o18, o19, o20, o21] (NoPanic Q) S 3 #[true, true, true, true, true, true, true, true, true, true, true, true, true, true, true, true, true, true, true, false, false, false] ((((((B.put o13.dst u13).put o14.dst u14).put o15.dst u15).put o16.dst (v16 u13 u14 u15)).put o17.dst (v17 u13 u14 u15)).put o18.dst (v18 u13 u14 u15)) w' := by
    intro u13 u14 u15 w0 i0
    refine wpAnyH_ready (rs := [19]) q13_14_15_ (by simp) (AllReadyH.cons (o := o19) rfl (fun K hK => ?_) AllReadyH.nil)
    · rw [if_pos (wa19 _)]
      refine s13_14_15_19 u13 u14 u15 w0 i0 K (fun u19 w1 i1 => hK.out _ _ (z13_14_15_19_ u13 u14 u15 u19 w1 i1) (fun _ => ?_))
      clear hK
      exact t13_14_15_19_ u13 u14 u15 u19 w1 i1
  have t13_19_ : ∀ (u13 u19 : Value) w', I13_19_ u13 u19 w' → wpAnyH P .any #[o0, o1, o2, o3, o4, o5, o6, o7, o8, o9, o10, o11, o12, o13, o14, o15, o16, o17, o18, o19, o20, o21] (NoPanic Q) S 7 #[true, true, true, true, true, true, true, true, true, true, true, true, true, true, false, false, false, false, false, true, false, false] ((B.put o13.dst u13).put o19.dst u19) w' := by
    intro u13 u19 w0 i0
    refine wpAnyH_ready (rs := [14]) q13_19_ (by simp) (AllReadyH.cons (o := o14) rfl (fun K hK => ?_) AllReadyH.nil)
    · rw [if_pos (wa14 _)]
      refine s13_19_14 u13 u19 w0 i0 K (fun u14 w1 i1 => hK.out _ _ (z13_14_19_ u13 u14 u19 w1 i1) (fun _ => ?_))
      clear hK
      rw [Act.put_comm _ _ _ ne19_14]
      exact t13_14_19_ u13 u14 u19 w1 i1
  have t13_14_ : ∀ (u13 u14 : Value) w', I13_14_ u13 u14 w' → wpAnyH P .any #[o0, o1, o2, o3, o4, o5, o6, o7, o8, o9, o10, o11, o12, o13, o14, o15, o16, o17, o18, o19, o20, o21] (NoPanic Q) S 7 #[true, true, true, true, true, true, true, true, true, true, true, true, true, true, true, false, false, false, false, false, false, false] ((B.put o13.dst u13).put o14.dst u14) w' := by
    intro u13 u14 w0 i0
    refine wpAnyH_ready (rs := [15, 19]) q13_14_ (by simp) (AllReadyH.cons (o := o15) rfl (fun K hK => ?_) (AllReadyH.cons (o := o19) rfl (fun K hK => ?_) AllReadyH.nil))
    · rw [if_pos (wa15 _)]
      refine s13_14_15 u13 u14 w0 i0 K (fun u15 w1 i1 => hK.out _ _ (z13_14_15_ u13 u14 u15 w1 i1) (fun _ => ?_))
      clear hK
      refine wpAnyH_take (i := 16) (oi := o16) rfl hs f13_14_15_16 r13_14_15_16 (fun _ _ _ h => h) (y13_14_15_16 u13 u14 u15 w1 i1) (z13_14_15_ u13 u14 u15 w1 i1) ?_
      refine wpAnyH_take (i := 17) (oi := o17) rfl hs f13_14_15_17 r13_14_15_17 (fun _ _ _ h => h) (y13_14_15_17 u13 u14 u15 w1 i1) (z13_14_15_ u13 u14 u15 w1 i1) ?_
      refine wpAnyH_take (i := 18) (oi := o18) rfl hs f13_14_15_18 r13_14_15_18 (fun _ _ _ h => h) (y13_14_15_18 u13 u14 u15 w1 i1) (z13_14_15_ u13 u14 u15 w1 i1) ?_
      exact t13_14_15_ u13 u14 u15 w1 i1
    · rw [if_pos (wa19 _)]
      refine s13_14_19 u13 u14 w0 i0 K (fun u19 w1 i1 => hK.out _ _ (z13_14_19_ u13 u14 u19 w1 i1) (fun _ => ?_))
      clear hK
      exact t13_14_19_ u13 u14 u19 w1 i1
  have t19_ : ∀ (u19 : Value) w', I19_ u19 w' → wpAnyH P .any #[o0, o1, o2, o3, o4, o5, o6, o7, o8, o9, o10, o11, o12, o13, o14, o15, o16, o17, o18, o19, o20, o21] (NoPanic Q) S 8 #[true, true, true, true, true, true, true, true, true, true, true, true, true, false, false, false, false, false, false, true, false, false] (B.put o19.dst u19) w' := by
    intro u19 w0 i0
    refine wpAnyH_ready (rs := [13]) q19_ (by simp) (AllReadyH.cons (o := o13) rfl (fun K hK => ?_) AllReadyH.nil)
    · rw [if_pos (wa13 _)]
      refine s19_13 u19 w0 i0 K (fun u13 w1 i1 => hK.out _ _ (z13_19_ u13 u19 w1 i1) (fun _ => ?_))
      clear hK
      rw [Act.put_comm _ _ _ ne19_13]
      exact t13_19_ u13 u19 w1 i1
  have t13_ : ∀ (u13 : Value) w', I13_ u13 w' → wpAnyH P .any #[o0, o1, o2, o3, o4, o5, o6, o7, o8, o9, o10, o11, o12, o13, o14, o15, o16, o17, o18, o19, o20, o21] (NoPanic Q) S 8 #[true, true, true, true, true, true, true, true, true, true, true, true, true, true, false, false, false, false, false, false, false, false] (B.put o13.dst u13) w' := by
    intro u13 w0 i0
    refine wpAnyH_ready (rs := [14, 19]) q13_ (by simp) (AllReadyH.cons (o := o14) rfl (fun K hK => ?_) (AllReadyH.cons (o := o19) rfl (fun K hK => ?_) AllReadyH.nil))
    · rw [if_pos (wa14 _)]
      refine s13_14 u13 w0 i0 K (fun u14 w1 i1 => hK.out _ _ (z13_14_ u13 u14 w1 i1) (fun _ => ?_))
      clear hK
      exact t13_14_ u13 u14 w1 i1
    · rw [if_pos (wa19 _)]
      refine s13_19 u13 w0 i0 K (fun u19 w1 i1 => hK.out _ _ (z13_19_ u13 u19 w1 i1) (fun _ => ?_))
      clear hK
      exact t13_19_ u13 u19 w1 i1
  have t_ : ∀ w', I_  w' → wpAnyH P .any #[o0, o1, o2, o3, o4, o5, o6, o7, o8, o9, o10, o11, o12, o13, o14, o15, o16, o17, o18, o19, o20, o21] (NoPanic Q) S 9 #[true, true, true, true, true, true, true, true, true, true, true, true, true, false, false, false, false, false, false, false, false, false] B w' := by
    intro w0 i0
    refine wpAnyH_ready (rs := [13, 19]) q_ (by simp) (AllReadyH.cons (o := o13) rfl (fun K hK => ?_) (AllReadyH.cons (o := o19) rfl (fun K hK => ?_) AllReadyH.nil))
    · rw [if_pos (wa13 _)]
      refine s_13  w0 i0 K (fun u13 w1 i1 => hK.out _ _ (z13_ u13 w1 i1) (fun _ => ?_))
      clear hK
      exact t13_ u13 w1 i1
    · rw [if_pos (wa19 _)]
      refine s_19  w0 i0 K (fun u19 w1 i1 => hK.out _ _ (z19_ u19 w1 i1) (fun _ => ?_))
      clear hK
      exact t19_ u19 w1 i1
  exact t_ w.drew i0

end
end Go.Proofs.YtckkalmhekfnhaaGreatDoor
namespace Go.Proofs.YtckkalmhekfnhaaGreatDoor
open Go.RowKit Go.BigFrame
set_option linter.unusedVariables false
set_option linter.unusedSimpArgs false

theorem run_loadS {P : Program} {o : Oper} {a : Act} (ty : TypeId) (x : Operand) (ho : o.op = .load ty x) (ad : Addr) (hx : a.eval x = .pointer (some ad)) (w : World) (v : Value) (e : TypeId) (hu : P.underlying ty = some (.slice e)) (hc : w.cell? ad = some v) :
    (execOp a.eval o).run P w = .ok (.value v) w := by
  have h2 : (isAgg ty).run P w = .ok false w := by
    unfold isAgg
    rw [Sem.run_bind, run_underlying hu w]; simp
  unfold execOp
  simp only [ho, hx, Instr.loadAt, Instr.sureAddr, Sem.run_bind, Sem.run_pure, Result.andThen_ok, loadVar, h2]
  simp [go_sem, hc]
theorem range4 {w : World} {g : Nat} {x0 x1 x2 x3 : Value} (h : w.cell? ⟨g, 0, none⟩ = some x0 ∧ w.cell? ⟨g, 1, none⟩ = some x1 ∧ w.cell? ⟨g, 2, none⟩ = some x2 ∧ w.cell? ⟨g, 3, none⟩ = some x3) : w.rangeAt g 0 [x0, x1, x2, x3] := by
  intro j u hj
  match j with
  | 0 => simp only [List.getElem?_cons_zero, Option.some.injEq] at hj; subst hj; exact h.1
  | 1 => simp only [List.getElem?_cons_succ, List.getElem?_cons_zero, Option.some.injEq] at hj; subst hj; exact h.2.1
  | 2 => simp only [List.getElem?_cons_succ, List.getElem?_cons_zero, Option.some.injEq] at hj; subst hj; exact h.2.2.1
  | 3 => simp only [List.getElem?_cons_succ, List.getElem?_cons_zero, Option.some.injEq] at hj; subst hj; exact h.2.2.2
  | j + 4 => simp at hj
theorem range2 {w : World} {g off : Nat} {x0 x1 : Value} (h0 : w.cell? ⟨g, off, none⟩ = some x0) (h1 : w.cell? ⟨g, off + 1, none⟩ = some x1) : w.rangeAt g off [x0, x1] := by
  intro j u hj
  match j with
  | 0 => simp only [List.getElem?_cons_zero, Option.some.injEq] at hj; subst hj; exact h0
  | 1 => simp only [List.getElem?_cons_succ, List.getElem?_cons_zero, Option.some.injEq] at hj; subst hj; exact h1
  | j + 2 => simp at hj
theorem RdB.at {w : World} {ao : Option Addr} {n c : Nat} {bs : List (Nat × List En)} (h : RdB w (.slice ao n c) bs) (i : Nat) (hi : i < bs.length) : ∃ b off y, ao = some ⟨b, off, none⟩ ∧ w.cell? ⟨b, off + i * 2, none⟩ = some (.int .u64 (bs[i].1 : Int)) ∧ w.cell? ⟨b, off + i * 2 + 1, none⟩ = some y ∧ RdN w y bs[i].2 := by
  obtain ⟨ao', cap, ts, h1, h2, h3, h4, h5, h6⟩ := h
  cases h1
  have hl : bs.length = ts.length := by rw [h2]; simp
  obtain ⟨b, off, rfl, hc⟩ := h6 (by omega)
  have hi' : i < ts.length := by omega
  obtain ⟨c1, c2⟩ := hc i hi'
  have e1 : bs[i] = (ts[i].1, ts[i].2.2) := by simp [h2]
  exact ⟨b, off, ts[i].2.1, rfl, by rw [e1]; exact c1, c2, by rw [e1]; exact h5 _ (List.getElem_mem _)⟩
theorem RdB.shape {w : World} {v : Value} {bs : List (Nat × List En)} (h : RdB w v bs) : ∃ ao c, v = .slice ao bs.length c ∧ bs.length ≤ c ∧ c ≤ 9223372036854775807 := by
  obtain ⟨ao, cap, ts, rfl, h2, h3, h4, _⟩ := h
  have hl : bs.length = ts.length := by rw [h2]; simp
  exact ⟨ao, cap, by rw [hl], by omega, h4⟩

set_option maxRecDepth 100000 in
set_option maxHeartbeats 4000000 in
theorem begins_any (a b c : Nat) (z : Int) (sv av tv : Value) (Bs Ds : List (Nat × List En)) (xs : List Nat) (k : Nat) (w : World) (hs : RdB w sv Bs) (ha : RdB w av Ds) (ht : RdJ w tv xs) (hB : Bs = Ds.take k) (hk : k ≤ Ds.length) (hkx : k < xs.length) (hxs : xs.length ≤ 9223372036854775807) :
    Calls Tryz.prog 26 #[.agg #[.int .u64 a, .int .u64 b, .int .u64 c, .int .i64 z, sv, .int .i64 (xs[k] : Nat)], .agg #[.int .u64 a, .int .u64 b, .int .u64 c, .int .i64 z], av, .int .i64 k, tv] w fun e w' => e = .returned (.bool true) ∧ Kept [] w w' := by
  have HS := hide hs
  have HA := hide ha
  obtain ⟨aS, cs, rfl, hcs1, hcs2⟩ := hs.shape
  obtain ⟨aa, ca, rfl, hca1, hca2⟩ := ha.shape
  obtain ⟨bt, ct, rfl, hct, hcell⟩ := ht
  have hBl : Bs.length = k := by rw [hB, List.length_take]; omega
  have HBl := hide hBl
  have HB := hide hB
  obtain ⟨U, hU⟩ : ∃ U, xs[k] = U := ⟨_, rfl⟩
  have HX := hide (by rw [← hU]; exact hcell k hkx : w.cell? ⟨bt, k, none⟩ = some (.int .i64 (U : Int)))
  rw [hU]
  rw [hBl]
  clear hs ha hcell hU hB
  have hcs3 : k ≤ cs := by omega
  clear hBl hcs1
  have HQ0 := hide (scells (((Kept.refl [] (w.alloc (.cells #[.int .u64 (a : Int), .int .u64 (b : Int), .int .u64 (c : Int), .int .i64 z, .slice aS k cs, .int .i64 (U : Int)] 51))).alloc (.cells #[.int .u64 (a : Int), .int .u64 (b : Int), .int .u64 (c : Int), .int .i64 z] 32)).heap (heap_alloc_new w (.cells #[.int .u64 (a : Int), .int .u64 (b : Int), .int .u64 (c : Int), .int .i64 z, .slice aS k cs, .int .i64 (U : Int)] 51)) (by simp)))
  have HH0 := hide (hcells (alloc_at w (.cells #[.int .u64 (a : Int), .int .u64 (b : Int), .int .u64 (c : Int), .int .i64 z, .slice aS k cs, .int .i64 (U : Int)] 51) (.cells #[.int .u64 (a : Int), .int .u64 (b : Int), .int .u64 (c : Int), .int .i64 z] 32)))
  have HK0 := hide (((Kept.refl [] w).alloc (.cells #[.int .u64 (a : Int), .int .u64 (b : Int), .int .u64 (c : Int), .int .i64 z, .slice aS k cs, .int .i64 (U : Int)] 51)).alloc (.cells #[.int .u64 (a : Int), .int .u64 (b : Int), .int .u64 (c : Int), .int .i64 z] 32))
  go_enter Tryz.func26, Tryz.ntmps26
  go_upto_region 1 with fail
  obtain ⟨W0, hW0⟩ : ∃ W, (w.alloc (.cells #[.int .u64 (a : Int), .int .u64 (b : Int), .int .u64 (c : Int), .int .i64 z, .slice aS k cs, .int .i64 (U : Int)] 51)).alloc (.cells #[.int .u64 (a : Int), .int .u64 (b : Int), .int .u64 (c : Int), .int .i64 z] 32) = W := ⟨_, rfl⟩
  rw [hW0] at HQ0 HH0 HK0 ⊢
  clear hW0
  have hnp : ∀ p : Prop, (∀ w', Kept [] W0 w' → p) = p := fun p => propext ⟨fun h => h W0 (Kept.refl [] W0), fun h _ _ => h⟩
  have HR1 := hide (range4 ⟨(unhide HQ0).1, (unhide HQ0).2.1, (unhide HQ0).2.2.1, (unhide HQ0).2.2.2.1⟩)
  have HR2 := hide (range4 (unhide HH0))
  refine wp_region_keep (by kernel_rfl) (by kernel_rfl) ?_
  iterate 1 (go_big_quiet_step (fail))
  refine wpQuiet_mid rfl 32 _ rfl w.heap.size 0 rfl [.int .u64 (a : Int), .int .u64 (b : Int), .int .u64 (c : Int), .int .i64 z] _ (fun w' hw' => rangeE_kept (unhide HR1) hw' (by simp)) Tryz.underlying32 rfl Tryz.size_head ?_
  simp only [Act.put, List.setIfInBounds_toArray, List.set_cons_succ, List.set_cons_zero]
  refine wpQuiet_mid rfl 32 _ rfl (w.heap.size + 1) 0 rfl [.int .u64 (a : Int), .int .u64 (b : Int), .int .u64 (c : Int), .int .i64 z] _ (fun w' hw' => rangeE_kept (unhide HR2) hw' (by simp)) Tryz.underlying32 rfl Tryz.size_head ?_
  simp only [Act.put, List.setIfInBounds_toArray, List.set_cons_succ, List.set_cons_zero]
  refine wpQuiet_val rfl (.bool false) (fun w' _ => by go_simp) ?_
  simp only [Act.put, List.setIfInBounds_toArray, List.set_cons_succ, List.set_cons_zero]
  iterate 2 (go_big_quiet_step (fail))
  refine wpQuiet_val rfl (.slice aS k cs) (fun w' hw' => run_loadS 49 _ rfl ⟨w.heap.size, 4, none⟩ rfl w' _ _ Tryz.underlying49 (hw'.cell (unhide HQ0).2.2.2.2.1 (by simp))) ?_
  simp only [Act.put, List.setIfInBounds_toArray, List.set_cons_succ, List.set_cons_zero]
  iterate 6 (go_big_quiet_step (fail))
  refine wpQuiet_val rfl (.int .i64 (U : Int)) (fun w' hw' => run_load1 3 _ rfl ⟨w.heap.size, 5, none⟩ rfl w' _ .i64 (by kernel_rfl) (hw'.cell (unhide HQ0).2.2.2.2.2 (by simp))) ?_
  simp only [Act.put, List.setIfInBounds_toArray, List.set_cons_succ, List.set_cons_zero]
  iterate 3 (go_big_quiet_step (fail))
  refine wpQuiet_val rfl (.int .i64 (U : Int)) (fun w' hw' => run_load1 3 _ rfl ⟨bt, k, none⟩ (by simp [go_sem]) w' _ .i64 (by kernel_rfl) (((unhide HK0).trans hw' (by simp)).cell (unhide HX) (by simp))) ?_
  simp only [Act.put, List.setIfInBounds_toArray, List.set_cons_succ, List.set_cons_zero]
  repeat (go_big_quiet_step (fail))
  refine wpQuiet_nil ?_
  intro w6 hw6
  have HK6 := hide ((unhide HK0).trans hw6 (by simp))
  have HS4 := hide (hw6.cell (unhide HQ0).2.2.2.2.1 (by simp))
  clear hw6 hnp HR1 HR2 HH0
  go_wp2_with fail
  go_loopw [11] (fun t11 wr => ∃ i : Nat, t11 = .int .i64 (i : Int) ∧ i ≤ k ∧ Hid (Kept [] w wr) ∧ Hid (wr.cell? ⟨w.heap.size, 4, none⟩ = some (.slice aS k cs))) (fun t _ => k - (intOf t).toNat)
  case atStart => exact ⟨0, rfl, Nat.zero_le _, HK6, HS4⟩
  case round =>
    obtain ⟨i, rfl, hi, HKr, HSr⟩ := hrel
    by_cases hik : i < k
    · have hlt : (i : Int) < (k : Int) := by omega
      obtain ⟨b1, o1, y1, h1, p0, p1, hy1⟩ := ((unhide HS).old (unhide HKr)).at i (by rw [unhide HBl]; exact hik)
      obtain ⟨b2, o2, y2, h2, q0, q1, hy2⟩ := ((unhide HA).old (unhide HKr)).at i (by omega)
      subst h1
      subst h2
      have hel : Bs[i]'(by rw [unhide HBl]; exact hik) = Ds[i]'(by omega) := by simp [unhide HB]
      rw [hel] at p0 hy1
      clear hel
      generalize Ds[i] = t at p0 hy1 q0 hy2
      obtain ⟨a1, n1, c1, _, _, hv1, _⟩ := id hy1
      subst hv1
      obtain ⟨a2, n2, c2, _, _, hv2, _⟩ := id hy2
      subst hv2
      have HG1 := hide (range2 p0 p1)
      have HG2 := hide (range2 q0 q1)
      have HY := hide (fun w' (kk : Kept [] wr w') => (sameBatch_any t.1 t.1 _ _ t.2 t.2 w' (hy1.old kk) (hy2.old kk)).mono (fun e w2 (h2 : _ ∧ _) => (⟨h2.1, kk.trans h2.2 (by simp)⟩ : _ ∧ Kept [] wr w2)))
      rw [show (decide (t.1 = t.1) && decide (t.2 = t.2)) = true by simp] at HY
      clear p0 p1 q0 q1 hy1 hy2
      have hnp : ∀ p : Prop, (∀ w', Kept [] wr w' → p) = p := fun p => propext ⟨fun h => h wr (Kept.refl [] wr), fun h _ _ => h⟩
      go_upto_region 6 with fail
      refine wp_region_keep (by kernel_rfl) (by kernel_rfl) ?_
      iterate 1 (go_big_quiet_step (fail))
      refine wpQuiet_val rfl (.slice (some ⟨b1, o1, none⟩) k cs) (fun w' hw' => run_loadS 49 _ rfl ⟨w.heap.size, 4, none⟩ rfl w' _ _ Tryz.underlying49 (hw'.cell (unhide HSr) (by simp))) ?_
      simp only [Act.put, List.setIfInBounds_toArray, List.set_cons_succ, List.set_cons_zero]
      iterate 2 (go_big_quiet_step (fail))
      refine wpQuiet_mid rfl 35 _ rfl b1 (o1 + i * 2) rfl [.int .u64 (t.1 : Int), .slice a1 n1 c1] _ (fun w' hw' => rangeE_kept (unhide HG1) hw' (by simp)) Tryz.underlying35 rfl Tryz.size_batch9 ?_
      simp only [Act.put, List.setIfInBounds_toArray, List.set_cons_succ, List.set_cons_zero]
      iterate 3 (go_big_quiet_step (fail))
      refine wpQuiet_mid rfl 35 _ rfl b2 (o2 + i * 2) rfl [.int .u64 (t.1 : Int), .slice a2 n2 c2] _ (fun w' hw' => rangeE_kept (unhide HG2) hw' (by simp)) Tryz.underlying35 rfl Tryz.size_batch9 ?_
      simp only [Act.put, List.setIfInBounds_toArray, List.set_cons_succ, List.set_cons_zero]
      go_big_quiet_want
      go_big_quiet_op
      apply Exists.intro
      refine ⟨fun w' hw' => ?_, ?_⟩
      · exact unhide HY w' hw'
      go_big_quiet_on
      repeat (go_big_quiet_step (fail))
      refine wpQuiet_nil ?_
      intro w7 hw7
      have HK7 := hide ((unhide HKr).trans hw7 (by simp))
      have HS7 := hide (hw7.cell (unhide HSr) (by simp))
      clear hw7 hnp
      go_wp2
      go_roundw
      case rel => exact ⟨i + 1, by simp, by omega, HK7, HS7⟩
      case measure => simp [intOf]; omega
    · have hlt : ¬ (i : Int) < (k : Int) := by omega
      go_wp2
      go_ret
      exact ⟨rfl, unhide HKr⟩
end Go.Proofs.YtckkalmhekfnhaaGreatDoor
