import Derived.Test.YtdnacefdihipnadTOpen
import Derived.Test.YtdnacefdihipnadLBack
namespace Go.Proofs.Ytdnacefdihipnad
open Go.RowKit
set_option linter.unusedVariables false
set_option linter.unusedSimpArgs false

theorem took_any (b : Nat) (gv : Value) (P : List Nat) (i e : Nat) (k : Int) (x : Nat) (pv : Value) (p : List Nat) (w : World) (h : ReAt w b gv P i e) (hr : ∀ w', Kept [b] w w' → Rd w' pv p) (hx : x < 18446744073709551616)
    {z : Nat} {q : List Nat} {j g : Nat} (hT : rTake P i e (kk k) p.length = (z, q, j, g)) :
    Calls Try.prog 10 #[.pointer (some ⟨b, 0, none⟩), tV k x pv] w fun r w' => ∃ bb, r = .returned (.bool bb) ∧ ((z = if kk k ≤ 5 then cutN (kk k) x else 0) → (q = if kk k ≤ 5 then [] else p) → bb = true) ∧ ReAt w' b gv P j g ∧ Kept [b] w w' := by
  by_cases hk : k = 0 ∨ k = 1 ∨ k = 2 ∨ k = 3 ∨ k = 4
  · refine (took_num b gv P i e k x pv p w h hr hx hk).mono ?_
    rintro r w' ⟨bb, rfl, h1, h2, h3⟩
    rw [hT] at h1 h2
    have h5 : kk k ≤ 5 := by rcases hk with rfl | rfl | rfl | rfl | rfl <;> decide
    exact ⟨bb, rfl, fun a c => h1 (by rw [if_pos h5] at a; exact a) (by rw [if_pos h5] at c; exact c), h2, h3⟩
  · have hk' : k = 5 ∨ (k ≠ 0 ∧ k ≠ 1 ∧ k ≠ 2 ∧ k ≠ 3 ∧ k ≠ 4 ∧ k ≠ 5) := by omega
    refine (took_byt b gv P i e k x pv p w h hr hx hk').mono ?_
    rintro r w' ⟨bb, rfl, h1, h2, h3⟩
    rw [hT] at h1 h2
    have h5 : ¬ kk k ≤ 5 := by
      rcases hk' with rfl | ⟨a0, a1, a2, a3, a4, a5⟩
      · decide
      · simp [kk, a0, a1, a2, a3, a4, a5]
    exact ⟨bb, rfl, fun a c => h1 (by rw [if_neg h5] at c; exact c), h2, h3⟩

theorem step_back {ops : List OpD} {k : Nat} {o : OpD} {P : List Nat} (hP : P = wide 258 2 ++ scriptB ops) (ho : ops[k]? = some o) :
    P.drop (2 + (scriptB (ops.take k)).length) = layB o.k o.x o.p ++ scriptB (ops.drop (k + 1)) ∧ 2 + (scriptB (ops.take k)).length ≤ P.length ∧ 2 + (scriptB (ops.take k)).length + (layB o.k o.x o.p).length = 2 + (scriptB (ops.take (k + 1))).length := by
  have h1 := script_at ho
  have h2 := scriptB_take_succ ho
  have hw : (wide 258 2).length = 2 := wide_len _ _
  have h3 : P.drop (2 + (scriptB (ops.take k)).length) = (scriptB ops).drop (scriptB (ops.take k)).length := by
    rw [hP, List.drop_append]
    simp [hw]
  have h4 := congrArg List.length h1
  refine ⟨by rw [h3, h1], ?_, ?_⟩
  · have h5 : (scriptB (ops.take k)).length ≤ (scriptB ops).length := by
      conv => rhs; rw [← List.take_append_drop k ops, scriptB_append]
      simp
    rw [hP]; simp [hw]; omega
  · rw [h2]; simp; omega

theorem rTake_e {P : List Nat} {i e : Nat} {k n : Int} (he : e ≠ 0) : (rTake P i e k n).2.2.2 = e := by
  unfold rTake
  repeat' split
  all_goals simp [rNum, rUvar, rRaw, rBlob, he]

theorem step_cut {ops : List OpD} {k : Nat} {o : OpD} {P : List Nat} {n i f z j g : Nat} {q : List Nat} (hP : P = wide 258 2 ++ scriptB ops) (ho : ops[k]? = some o) (hn : n ≤ P.length) (hk : 1 ≤ o.k ∧ o.k ≤ 7) (hx : o.x < 18446744073709551616) (hp : o.p.length < 18446744073709551616)
    (hT : rTake (P.take n) i f o.k o.p.length = (z, q, j, g)) (hf : f = 0 → i = 2 + (scriptB (ops.take k)).length ∧ i ≤ n) :
    g = 0 → j = 2 + (scriptB (ops.take (k + 1))).length ∧ j ≤ n := by
  intro hg
  obtain ⟨s1, s2, s3⟩ := step_back hP ho
  by_cases hf0 : f = 0
  · subst hf0
    obtain ⟨hi, hin⟩ := hf rfl
    rw [← hi] at s1 s2 s3
    have hd : (P.take n).drop i = (layB o.k o.x o.p ++ scriptB (ops.drop (k + 1))).take (n - i) := by rw [List.drop_take, s1]
    have hil : i ≤ (P.take n).length := by simp; omega
    by_cases hle : (layB o.k o.x o.p).length ≤ n - i
    · have hd2 : (P.take n).drop i = layB o.k o.x o.p ++ (scriptB (ops.drop (k + 1))).take (n - i - (layB o.k o.x o.p).length) := by
        rw [hd, List.take_append, List.take_of_length_le hle]
      have hb := rTake_back (n := (o.p.length : Int)) hd2 hil hk hx hp (fun _ => rfl) (fun _ => Int.le_refl _)
      rw [hb] at hT
      simp only [Prod.mk.injEq] at hT
      omega
    · have hd2 : (P.take n).drop i = (layB o.k o.x o.p).take (n - i) := by
        rw [hd, List.take_append_of_le_length (by omega)]
      have hb := rTake_short hd2 (by omega) hil hk hx hp
      rw [hb] at hT
      simp only [Prod.mk.injEq] at hT
      omega
  · have := rTake_e (P := P.take n) (i := i) (k := o.k) (n := (o.p.length : Int)) hf0
    rw [hT] at this
    simp only at this
    omega
end Go.Proofs.Ytdnacefdihipnad
