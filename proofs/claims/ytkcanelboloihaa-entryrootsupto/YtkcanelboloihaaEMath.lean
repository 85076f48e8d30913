import Derived.Test.YtkcanelboloihaaEBk
import Derived.Test.YtkcanelboloihaaEDecB
namespace Go.Proofs.Ytkcanelboloihaa
open Go.RowKit
set_option linter.unusedVariables false
set_option linter.unusedSimpArgs false

theorem drop_next {P : List Nat} {i : Nat} {a r : List Nat} (h : P.drop i = a ++ r) : P.drop (i + a.length) = r := by
  rw [← List.drop_drop, h, List.drop_left]
theorem rBlob_len {P : List Nat} {i e j : Nat} {m : Nat} {q : List Nat} (h : rBlob P i e m = (q, j, 0)) : q.length ≤ m := by
  unfold rBlob at h
  split at h
  · rename_i h1; injection h with h2 h3; injection h3 with h3 h4; exact absurd h4 h1
  split at h
  · injection h with h2 h3; injection h3 with h3 h4; omega
  split at h
  · injection h with h2 h3; injection h3 with h3 h4; omega
  split at h
  · injection h with h2 h3; injection h3 with h3 h4; omega
  split at h
  · injection h with h2 h3; injection h3 with h3 h4; omega
  · rename_i h1 h2 h3 h4 h5
    injection h with h2 h3
    rw [← h2, List.length_take]; omega
theorem rBlob_held {P : List Nat} {i e : Nat} {m : Int} {q : List Nat} {j : Nat} (h : rBlob P i e m = (q, j, 0)) : e = 0 := by
  unfold rBlob at h
  split at h
  · rename_i h1; injection h with h2 h3; injection h3 with h3 h4
  · rename_i h1; exact Decidable.not_not.1 h1
theorem rUvar_held {P : List Nat} {i e v j : Nat} (h : rUvar P i e = (v, j, 0)) : e = 0 := by
  unfold rUvar at h
  split at h
  · rename_i h1; injection h with h2 h3; injection h3 with h3 h4
  · rename_i h1; exact Decidable.not_not.1 h1
theorem wide1 (k : Nat) (h : k < 256) : wide k 1 = [k] := by simp [wide, Nat.mod_eq_of_lt h]

theorem takeE_back {P : List Nat} {i : Nat} {e : En} {r : List Nat} (hd : P.drop i = enB e ++ r) (hc : chkE e = 0) : takeE P i = (e, i + (enB e).length, 0) := by
  obtain ⟨k, key, val⟩ := e
  unfold chkE at hc
  simp only at hc
  split at hc
  · omega
  rename_i hl
  split at hc
  · omega
  rename_i hk
  have hk' : k = 1 ∨ (k = 2 ∧ val = []) := by
    rcases (by omega : k = 1 ∨ (k = 2 ∧ val.length = 0)) with h | ⟨h, h0⟩
    · exact Or.inl h
    · exact Or.inr ⟨h, List.eq_nil_of_length_eq_zero h0⟩
  rcases hk' with rfl | ⟨rfl, rfl⟩
  · simp only [enB, if_true] at hd ⊢
    have n1 : rNum P i 0 1 = (1, i + 1, 0) := rNum_back (v := 1) (n := 1) (r := uv key.length ++ key ++ (uv val.length ++ val) ++ r) (by rw [hd]; simp [wide1]) (by decide) (by decide)
    have hd1 : P.drop (i + 1) = uv key.length ++ key ++ (uv val.length ++ val ++ r) := by
      have := drop_next (a := [1]) (r := uv key.length ++ key ++ (uv val.length ++ val) ++ r) (P := P) (i := i) (by rw [hd]; simp)
      rw [show i + 1 = i + [1].length from rfl, this]; simp
    have n2 : rBlob P (i + 1) 0 64 = (key, i + 1 + ((uv key.length).length + key.length), 0) := rBlob_back hd1 (by omega) (by omega)
    have hd2 : P.drop (i + 1 + ((uv key.length).length + key.length)) = uv val.length ++ val ++ r := by
      have := drop_next hd1
      rw [List.length_append] at this
      exact this
    have n3 : rBlob P (i + 1 + ((uv key.length).length + key.length)) 0 256 = (val, i + 1 + ((uv key.length).length + key.length) + ((uv val.length).length + val.length), 0) := rBlob_back hd2 (by omega) (by omega)
    unfold takeE
    simp only [n1, n2, n3]
    simp only [Nat.reduceMod, true_or, if_true, List.length_cons, List.length_append, Prod.mk.injEq, true_and, and_true]
    omega
  · simp only [enB] at hd ⊢
    rw [if_neg (by decide)] at hd ⊢
    have n1 : rNum P i 0 1 = (2, i + 1, 0) := rNum_back (v := 2) (n := 1) (r := uv key.length ++ key ++ r) (by rw [hd]; simp [wide1]) (by decide) (by decide)
    have hd1 : P.drop (i + 1) = uv key.length ++ key ++ r := by
      have := drop_next (a := [2]) (r := uv key.length ++ key ++ r) (P := P) (i := i) (by rw [hd]; simp)
      rw [show i + 1 = i + [2].length from rfl, this]
    have n2 : rBlob P (i + 1) 0 64 = (key, i + 1 + ((uv key.length).length + key.length), 0) := rBlob_back hd1 (by omega) (by omega)
    unfold takeE
    simp only [n1, n2]
    simp only [Nat.reduceMod, List.length_cons, List.length_append, List.length_nil]
    simp
    omega

theorem takeN_back {P : List Nat} : ∀ (es : List En) (i : Nat) (r : List Nat), P.drop i = entB es ++ r → (∀ e ∈ es, chkE e = 0) → takeN P i es.length = (es, i + (entB es).length, 0)
  | [], i, r, _, _ => by simp [takeN, entB]
  | e :: es, i, r, hd, hc => by
    have hd1 : P.drop i = enB e ++ (entB es ++ r) := by rw [hd]; simp [entB]
    have h1 := takeE_back hd1 (hc e (by simp))
    have h2 := takeN_back es _ r (drop_next hd1) (fun x hx => hc x (by simp [hx]))
    simp only [List.length_cons, takeN, h1, h2]
    simp [entB]
    omega
theorem fold_zero : ∀ es : List En, (∀ e ∈ es, chkE e = 0) → es.foldl (fun a e => leastE a (chkE e)) 0 = 0
  | [], _ => rfl
  | x :: xs, h => by
    rw [List.foldl_cons, h x (by simp)]
    exact fold_zero xs (fun e he => h e (by simp [he]))
theorem chkB_iff {f : Nat} {es : List En} : chkB f es = 0 ↔ cntE f es.length = 0 ∧ ∀ e ∈ es, chkE e = 0 := by
  refine ⟨fun h => foldl_zero es _ h, fun ⟨h1, h2⟩ => ?_⟩
  unfold chkB
  rw [h1]
  exact fold_zero es h2
theorem takeB_back {P : List Nat} {f : Nat} {es : List En} {r : List Nat} (hd : P = batB f es ++ r) (hc : chkB f es = 0) (hf : f < 18446744073709551616) : takeB P 0 = (f, es, (batB f es).length, 0) := by
  obtain ⟨c1, c2⟩ := chkB_iff.1 hc
  have hn : es.length ≤ 64 := by unfold cntE at c1; split at c1 <;> omega
  have hd0 : P.drop 0 = uv f ++ (uv es.length ++ (entB es ++ r)) := by rw [List.drop_zero, hd]; simp [batB]
  have n1 := rUvar_back hd0 hf
  have hd1 := drop_next hd0
  have n2 := rUvar_back hd1 (by omega)
  have n3 := takeN_back es _ r (drop_next hd1) c2
  unfold takeB
  simp only [n1, n2, n3, c1]
  simp [batB]
  omega

theorem rNum1_one {P : List Nat} {i x j : Nat} (h : rNum P i 0 1 = (x, j, 0)) (hb : ∀ y ∈ P, y < 256) (hi : i ≤ P.length) : [x] = (P.drop i).take 1 ∧ j = i + 1 ∧ j ≤ P.length ∧ x < 256 := by
  obtain ⟨h1, h2, h3, h4⟩ := rNum_one h hb (by decide) hi
  have h4' : x < 256 := by simpa using h4
  rw [wide1 x h4'] at h1
  exact ⟨h1, h2, h3, h4'⟩
theorem take_join (P : List Nat) {i j k : Nat} (h1 : i ≤ j) (h2 : j ≤ k) : (P.drop i).take (k - i) = (P.drop i).take (j - i) ++ (P.drop j).take (k - j) := by
  rw [show k - i = (j - i) + (k - j) by omega, List.take_add, List.drop_drop, show i + (j - i) = j by omega]
theorem takeE_one {P : List Nat} {i : Nat} {e : En} {j : Nat} (h : takeE P i = (e, j, 0)) (hb : ∀ y ∈ P, y < 256) (hi : i ≤ P.length) : enB e = (P.drop i).take (j - i) ∧ i ≤ j ∧ j ≤ P.length ∧ chkE e = 0 := by
  unfold takeE at h
  obtain ⟨⟨x, i1, e1⟩, hx⟩ : ∃ t, rNum P i 0 1 = t := ⟨_, rfl⟩
  rw [hx] at h
  simp only at h
  obtain ⟨⟨key, i2, e2⟩, hy⟩ : ∃ t, rBlob P i1 e1 64 = t := ⟨_, rfl⟩
  rw [hy] at h
  simp only at h
  split at h
  · split at h
    · rename_i h12 hk1
      obtain ⟨⟨val, i3, e3⟩, hz⟩ : ∃ t, rBlob P i2 e2 256 = t := ⟨_, rfl⟩
      rw [hz] at h
      simp only at h
      injection h with h1 h2
      injection h2 with h2 h3
      subst h2
      subst h3
      have he2 := rBlob_held hz
      subst he2
      have he1 := rBlob_held hy
      subst he1
      obtain ⟨a1, a2, a3, a4⟩ := rNum1_one hx hb hi
      obtain ⟨b1, b2, b3⟩ := rBlob_one hy hb a3
      obtain ⟨c1, c2, c3⟩ := rBlob_one hz hb b3
      have l1 := rBlob_len (m := 64) hy
      have l2 := rBlob_len (m := 256) hz
      have hx1 : x = 1 := by omega
      subst hx1
      subst h1
      refine ⟨?_, by omega, c3, ?_⟩
      · rw [take_join P (by omega : i ≤ i1) (by omega : i1 ≤ i3), take_join P b2 c2, show i1 - i = 1 by omega, ← a1, ← b1, ← c1]
        simp [enB]
      · unfold chkE
        simp only
        rw [if_neg (by omega), if_neg (by omega)]
    · rename_i h12 hk1
      injection h with h1 h2
      injection h2 with h2 h3
      subst h2
      subst h3
      have he1 := rBlob_held hy
      subst he1
      obtain ⟨a1, a2, a3, a4⟩ := rNum1_one hx hb hi
      obtain ⟨b1, b2, b3⟩ := rBlob_one hy hb a3
      have l1 := rBlob_len (m := 64) hy
      have hx1 : x = 2 := by omega
      subst hx1
      subst h1
      refine ⟨?_, by omega, b3, ?_⟩
      · rw [take_join P (by omega : i ≤ i1) (by omega : i1 ≤ i2), show i1 - i = 1 by omega, ← a1, ← b1]
        simp [enB]
      · unfold chkE
        simp only [List.length_nil]
        rw [if_neg (by omega), if_neg (by omega)]
  · injection h with h1 h2
    injection h2 with h2 h3
    omega

theorem takeN_one {P : List Nat} (hb : ∀ y ∈ P, y < 256) : ∀ (n i : Nat) (es : List En) (j : Nat), takeN P i n = (es, j, 0) → i ≤ P.length → entB es = (P.drop i).take (j - i) ∧ i ≤ j ∧ j ≤ P.length ∧ es.length = n ∧ ∀ e ∈ es, chkE e = 0
  | 0, i, es, j, h, hi => by
    simp only [takeN, Prod.mk.injEq, and_true] at h
    obtain ⟨rfl, rfl⟩ := h
    simp [entB, hi]
  | n + 1, i, es, j, h, hi => by
    obtain ⟨⟨e, i1, f1⟩, hx⟩ : ∃ t, takeE P i = t := ⟨_, rfl⟩
    simp only [takeN, hx] at h
    split at h
    · rename_i hf
      injection h with h1 h2
      injection h2 with h2 h3
      exact absurd h3 hf
    · rename_i hf
      have hf0 : f1 = 0 := Decidable.not_not.1 hf
      subst hf0
      obtain ⟨a1, a2, a3, a4⟩ := takeE_one hx hb hi
      obtain ⟨⟨es', j', f'⟩, hy⟩ : ∃ t, takeN P i1 n = t := ⟨_, rfl⟩
      rw [hy] at h
      injection h with h1 h2
      injection h2 with h2 h3
      simp only at h1 h2 h3
      subst h2
      subst h3
      obtain ⟨b1, b2, b3, b4, b5⟩ := takeN_one hb n i1 es' j' hy a3
      subst h1
      refine ⟨?_, by omega, b3, by simp [b4], ?_⟩
      · rw [take_join P a2 b2, ← a1, ← b1]; simp [entB]
      · intro x hx'
        rcases List.mem_cons.1 hx' with rfl | hx'
        · exact a4
        · exact b5 x hx'
theorem takeB_one {P : List Nat} {f j : Nat} {es : List En} (h : takeB P 0 = (f, es, j, 0)) (hb : ∀ y ∈ P, y < 256) : batB f es = P.take j ∧ j ≤ P.length ∧ chkB f es = 0 ∧ f < 18446744073709551616 := by
  unfold takeB at h
  obtain ⟨⟨x, i1, e1⟩, hx⟩ : ∃ t, rUvar P 0 0 = t := ⟨_, rfl⟩
  rw [hx] at h
  simp only at h
  obtain ⟨⟨n, i2, e2⟩, hy⟩ : ∃ t, rUvar P i1 e1 = t := ⟨_, rfl⟩
  rw [hy] at h
  simp only at h
  split at h
  · rename_i h1
    injection h with h2 h3; injection h3 with h3 h4; injection h4 with h4 h5
    exact absurd h5 h1
  rename_i he
  split at h
  · rename_i h1
    injection h with h2 h3; injection h3 with h3 h4; injection h4 with h4 h5
    exact absurd h5 h1
  rename_i hc
  have he0 : e2 = 0 := Decidable.not_not.1 he
  subst he0
  have he1 := rUvar_held hy
  subst he1
  injection h with h2 h3
  subst h2
  obtain ⟨a1, a2, a3, a4⟩ := rUvar_one hx hb (Nat.zero_le _)
  obtain ⟨b1, b2, b3, b4⟩ := rUvar_one hy hb a3
  obtain ⟨c1, c2, c3, c4, c5⟩ := takeN_one hb n i2 es j h3 b3
  refine ⟨?_, c3, chkB_iff.2 ⟨?_, c5⟩, a4⟩
  · have e0 := take_join P (Nat.zero_le i1) (by omega : i1 ≤ j)
    rw [List.drop_zero] at e0
    rw [show j = j - 0 by omega, e0, take_join P b2 c2, ← b1, ← c1]
    rw [List.drop_zero] at a1
    rw [← a1, ← c4]
    rfl
  · rw [c4]; exact Decidable.not_not.1 hc

theorem decB_one {P : List Nat} {f : Nat} {es : List En} (h : decB P = (f, es, 0)) (hb : ∀ y ∈ P, y < 256) : P = batB f es ∧ chkB f es = 0 ∧ f < 18446744073709551616 := by
  unfold decB at h
  obtain ⟨⟨f', es', j, e⟩, hx⟩ : ∃ t, takeB P 0 = t := ⟨_, rfl⟩
  rw [hx] at h
  simp only at h
  split at h
  · rename_i h1
    injection h with h2 h3; injection h3 with h3 h4
    exact absurd h4 h1
  rename_i he
  have he0 : e = 0 := Decidable.not_not.1 he
  subst he0
  obtain ⟨a1, a2, a3, a4⟩ := takeB_one hx hb
  split at h
  · rename_i h1
    injection h with h2 h3; injection h3 with h3 h4
    exact absurd h4 h1
  rename_i hd
  injection h with h2 h3; injection h3 with h3 h4
  subst h2
  subst h3
  refine ⟨?_, a3, a4⟩
  have hj : ¬ j < P.length := fun h9 => hd (by unfold doneE; rw [if_pos ⟨rfl, h9⟩]; decide)
  rw [a1, List.take_of_length_le (by omega)]
theorem decB_back {f : Nat} {es : List En} (hc : chkB f es = 0) (hf : f < 18446744073709551616) : decB (batB f es) = (f, es, 0) := by
  have h := takeB_back (P := batB f es) (r := []) (by simp) hc hf
  unfold decB
  rw [h]
  simp [doneE]
theorem decB_more {f : Nat} {es : List En} {r : List Nat} (hc : chkB f es = 0) (hf : f < 18446744073709551616) (hr : r ≠ []) : (decB (batB f es ++ r)).2.2 = 3 := by
  have h := takeB_back (P := batB f es ++ r) (r := r) rfl hc hf
  have hl : 0 < r.length := List.length_pos_iff.2 hr
  unfold decB
  rw [h]
  simp [doneE, hl]
theorem decB_less {f : Nat} {es : List En} {n : Nat} (hc : chkB f es = 0) (hf : f < 18446744073709551616) (hb : ∀ y ∈ batB f es, y < 256) (hn : n < (batB f es).length) : (decB ((batB f es).take n)).2.2 ≠ 0 := by
  intro h
  obtain ⟨⟨f', es', e⟩, hx⟩ : ∃ t, decB ((batB f es).take n) = t := ⟨_, rfl⟩
  rw [hx] at h
  simp only at h
  subst h
  obtain ⟨a1, a2, a3⟩ := decB_one hx (fun y hy => hb y (List.mem_of_mem_take hy))
  have h1 := takeB_back (P := batB f es) (r := []) (by simp) hc hf
  have h2 := takeB_back (P := batB f es) (r := (batB f es).drop n) (by rw [← a1, List.take_append_drop]) a2 a3
  rw [h1] at h2
  injection h2 with h3 h4; injection h4 with h4 h5; injection h5 with h5 h6
  have h7 := congrArg List.length a1
  rw [List.length_take] at h7
  omega

theorem decE_one {P : List Nat} {e : En} (h : decE P = (e, 0)) (hb : ∀ y ∈ P, y < 256) : P = enB e ∧ chkE e = 0 := by
  unfold decE at h
  obtain ⟨⟨e', j, f⟩, hx⟩ : ∃ t, takeE P 0 = t := ⟨_, rfl⟩
  rw [hx] at h
  simp only at h
  split at h
  · rename_i h1
    injection h with h2 h3
    exact absurd h3 h1
  rename_i he
  have he0 : f = 0 := Decidable.not_not.1 he
  subst he0
  obtain ⟨a1, a2, a3, a4⟩ := takeE_one hx hb (Nat.zero_le _)
  split at h
  · rename_i h1
    injection h with h2 h3
    exact absurd h3 h1
  rename_i hd
  injection h with h2 h3
  subst h2
  refine ⟨?_, a4⟩
  have hj : ¬ j < P.length := fun h9 => hd (by unfold doneE; rw [if_pos ⟨rfl, h9⟩]; decide)
  rw [a1, List.drop_zero, List.take_of_length_le (by omega)]
theorem decE_back {e : En} (hc : chkE e = 0) : decE (enB e) = (e, 0) := by
  have h := takeE_back (P := enB e) (i := 0) (r := []) (by simp) hc
  unfold decE
  rw [h]
  simp [doneE]
theorem decE_more {e : En} {r : List Nat} (hc : chkE e = 0) (hr : r ≠ []) : (decE (enB e ++ r)).2 = 3 := by
  have h := takeE_back (P := enB e ++ r) (i := 0) (r := r) rfl hc
  have hl : 0 < r.length := List.length_pos_iff.2 hr
  unfold decE
  rw [h]
  simp [doneE, hl]
theorem decE_less {e : En} {n : Nat} (hc : chkE e = 0) (hb : ∀ y ∈ enB e, y < 256) (hn : n < (enB e).length) : (decE ((enB e).take n)).2 ≠ 0 := by
  intro h
  obtain ⟨⟨e', f⟩, hx⟩ : ∃ t, decE ((enB e).take n) = t := ⟨_, rfl⟩
  rw [hx] at h
  simp only at h
  subst h
  obtain ⟨a1, a2⟩ := decE_one hx (fun y hy => hb y (List.mem_of_mem_take hy))
  have h1 := takeE_back (P := enB e) (i := 0) (r := []) (by simp) hc
  have h2 := takeE_back (P := enB e) (i := 0) (r := (enB e).drop n) (by rw [List.drop_zero, ← a1, List.take_append_drop]) a2
  rw [h1] at h2
  injection h2 with h3 h4; injection h4 with h4 h5
  have h7 := congrArg List.length a1
  rw [List.length_take] at h7
  omega
end Go.Proofs.Ytkcanelboloihaa
