import Derived.Test.YtckkalmhekfnhabGreatDoorTopC
import Derived.Test.YtckkalmhekfnhabGreatDoorTopA
import Derived.Test.YtckkalmhekfnhabGreatDoorEBat2
import Derived.Test.YtckkalmhekfnhabGreatDoorFEnc
import Derived.Test.YtckkalmhekfnhabGreatDoorSNum
namespace Go.Proofs.YtckkalmhekfnhabGreatDoor
open Go.RowKit
set_option linter.unusedVariables false
set_option linter.unusedSimpArgs false

theorem drop_next {P : List Nat} {i : Nat} {a r : List Nat} (h : P.drop i = a ++ r) : P.drop (i + a.length) = r := by
  rw [← List.drop_drop, h, List.drop_left]
theorem rBlob_len {P : List Nat} {i e j : Nat} {m : Nat} {q : List Nat} (h : rBlob P i e m = (q, j, 0)) : q.length ≤ m := by
  unfold rBlob at h
  split at h
  · rename_i h1; injection h with h2 h3; injection h3 with h3 h4; exact absurd h4 h1
  split at h
  · injection h with h2 h3; injection h3 with h3 h4; omega
  split at h
  · injection h with h2 h3; injection h3 with h3 h4; omega
  split at h
  · injection h with h2 h3; injection h3 with h3 h4; omega
  split at h
  · injection h with h2 h3; injection h3 with h3 h4; omega
  · rename_i h1 h2 h3 h4 h5
    injection h with h2 h3
    rw [← h2, List.length_take]; omega
theorem rBlob_held {P : List Nat} {i e : Nat} {m : Int} {q : List Nat} {j : Nat} (h : rBlob P i e m = (q, j, 0)) : e = 0 := by
  unfold rBlob at h
  split at h
  · rename_i h1; injection h with h2 h3; injection h3 with h3 h4
  · rename_i h1; exact Decidable.not_not.1 h1
theorem rUvar_held {P : List Nat} {i e v j : Nat} (h : rUvar P i e = (v, j, 0)) : e = 0 := by
  unfold rUvar at h
  split at h
  · rename_i h1; injection h with h2 h3; injection h3 with h3 h4
  · rename_i h1; exact Decidable.not_not.1 h1
theorem wide1 (k : Nat) (h : k < 256) : wide k 1 = [k] := by simp [wide, Nat.mod_eq_of_lt h]

theorem takeE_back {P : List Nat} {i : Nat} {e : En} {r : List Nat} (hd : P.drop i = enB e ++ r) (hc : chkE e = 0) : takeE P i = (e, i + (enB e).length, 0) := by
  obtain ⟨k, key, val⟩ := e
  unfold chkE at hc
  simp only at hc
  split at hc
  · omega
  rename_i hl
  split at hc
  · omega
  rename_i hk
  have hk' : k = 1 ∨ (k = 2 ∧ val = []) := by
    rcases (by omega : k = 1 ∨ (k = 2 ∧ val.length = 0)) with h | ⟨h, h0⟩
    · exact Or.inl h
    · exact Or.inr ⟨h, List.eq_nil_of_length_eq_zero h0⟩
  rcases hk' with rfl | ⟨rfl, rfl⟩
  · simp only [enB, if_true] at hd ⊢
    have n1 : rNum P i 0 1 = (1, i + 1, 0) := rNum_back (v := 1) (n := 1) (r := uv key.length ++ key ++ (uv val.length ++ val) ++ r) (by rw [hd]; simp [wide1]) (by decide) (by decide)
    have hd1 : P.drop (i + 1) = uv key.length ++ key ++ (uv val.length ++ val ++ r) := by
      have := drop_next (a := [1]) (r := uv key.length ++ key ++ (uv val.length ++ val) ++ r) (P := P) (i := i) (by rw [hd]; simp)
      rw [show i + 1 = i + [1].length from rfl, this]; simp
    have n2 : rBlob P (i + 1) 0 64 = (key, i + 1 + ((uv key.length).length + key.length), 0) := rBlob_back hd1 (by omega) (by omega)
    have hd2 : P.drop (i + 1 + ((uv key.length).length + key.length)) = uv val.length ++ val ++ r := by
      have := drop_next hd1
      rw [List.length_append] at this
      exact this
    have n3 : rBlob P (i + 1 + ((uv key.length).length + key.length)) 0 256 = (val, i + 1 + ((uv key.length).length + key.length) + ((uv val.length).length + val.length), 0) := rBlob_back hd2 (by omega) (by omega)
    unfold takeE
    simp only [n1, n2, n3]
    simp only [Nat.reduceMod, true_or, if_true, List.length_cons, List.length_append, Prod.mk.injEq, true_and, and_true]
    omega
  · simp only [enB] at hd ⊢
    rw [if_neg (by decide)] at hd ⊢
    have n1 : rNum P i 0 1 = (2, i + 1, 0) := rNum_back (v := 2) (n := 1) (r := uv key.length ++ key ++ r) (by rw [hd]; simp [wide1]) (by decide) (by decide)
    have hd1 : P.drop (i + 1) = uv key.length ++ key ++ r := by
      have := drop_next (a := [2]) (r := uv key.length ++ key ++ r) (P := P) (i := i) (by rw [hd]; simp)
      rw [show i + 1 = i + [2].length from rfl, this]
    have n2 : rBlob P (i + 1) 0 64 = (key, i + 1 + ((uv key.length).length + key.length), 0) := rBlob_back hd1 (by omega) (by omega)
    unfold takeE
    simp only [n1, n2]
    simp only [Nat.reduceMod, List.length_cons, List.length_append, List.length_nil]
    simp
    omega

theorem takeN_back {P : List Nat} : ∀ (es : List En) (i : Nat) (r : List Nat), P.drop i = entB es ++ r → (∀ e ∈ es, chkE e = 0) → takeN P i es.length = (es, i + (entB es).length, 0)
  | [], i, r, _, _ => by simp [takeN, entB]
  | e :: es, i, r, hd, hc => by
    have hd1 : P.drop i = enB e ++ (entB es ++ r) := by rw [hd]; simp [entB]
    have h1 := takeE_back hd1 (hc e (by simp))
    have h2 := takeN_back es _ r (drop_next hd1) (fun x hx => hc x (by simp [hx]))
    simp only [List.length_cons, takeN, h1, h2]
    simp [entB]
    omega
theorem fold_zero : ∀ es : List En, (∀ e ∈ es, chkE e = 0) → es.foldl (fun a e => leastE a (chkE e)) 0 = 0
  | [], _ => rfl
  | x :: xs, h => by
    rw [List.foldl_cons, h x (by simp)]
    exact fold_zero xs (fun e he => h e (by simp [he]))
theorem chkB_iff {f : Nat} {es : List En} : chkB f es = 0 ↔ cntE f es.length = 0 ∧ ∀ e ∈ es, chkE e = 0 := by
  refine ⟨fun h => foldl_zero es _ h, fun ⟨h1, h2⟩ => ?_⟩
  unfold chkB
  rw [h1]
  exact fold_zero es h2
theorem takeB_back {P : List Nat} {f : Nat} {es : List En} {r : List Nat} (hd : P = batB f es ++ r) (hc : chkB f es = 0) (hf : f < 18446744073709551616) : takeB P 0 = (f, es, (batB f es).length, 0) := by
  obtain ⟨c1, c2⟩ := chkB_iff.1 hc
  have hn : es.length ≤ 64 := by unfold cntE at c1; split at c1 <;> omega
  have hd0 : P.drop 0 = uv f ++ (uv es.length ++ (entB es ++ r)) := by rw [List.drop_zero, hd]; simp [batB]
  have n1 := rUvar_back hd0 hf
  have hd1 := drop_next hd0
  have n2 := rUvar_back hd1 (by omega)
  have n3 := takeN_back es _ r (drop_next hd1) c2
  unfold takeB
  simp only [n1, n2, n3, c1]
  simp [batB]
  omega

theorem rNum1_one {P : List Nat} {i x j : Nat} (h : rNum P i 0 1 = (x, j, 0)) (hb : ∀ y ∈ P, y < 256) (hi : i ≤ P.length) : [x] = (P.drop i).take 1 ∧ j = i + 1 ∧ j ≤ P.length ∧ x < 256 := by
  obtain ⟨h1, h2, h3, h4⟩ := rNum_one h hb (by decide) hi
  have h4' : x < 256 := by simpa using h4
  rw [wide1 x h4'] at h1
  exact ⟨h1, h2, h3, h4'⟩
theorem take_join (P : List Nat) {i j k : Nat} (h1 : i ≤ j) (h2 : j ≤ k) : (P.drop i).take (k - i) = (P.drop i).take (j - i) ++ (P.drop j).take (k - j) := by
  rw [show k - i = (j - i) + (k - j) by omega, List.take_add, List.drop_drop, show i + (j - i) = j by omega]
theorem takeE_one {P : List Nat} {i : Nat} {e : En} {j : Nat} (h : takeE P i = (e, j, 0)) (hb : ∀ y ∈ P, y < 256) (hi : i ≤ P.length) : enB e = (P.drop i).take (j - i) ∧ i ≤ j ∧ j ≤ P.length ∧ chkE e = 0 := by
  unfold takeE at h
  obtain ⟨⟨x, i1, e1⟩, hx⟩ : ∃ t, rNum P i 0 1 = t := ⟨_, rfl⟩
  rw [hx] at h
  simp only at h
  obtain ⟨⟨key, i2, e2⟩, hy⟩ : ∃ t, rBlob P i1 e1 64 = t := ⟨_, rfl⟩
  rw [hy] at h
  simp only at h
  split at h
  · split at h
    · rename_i h12 hk1
      obtain ⟨⟨val, i3, e3⟩, hz⟩ : ∃ t, rBlob P i2 e2 256 = t := ⟨_, rfl⟩
      rw [hz] at h
      simp only at h
      injection h with h1 h2
      injection h2 with h2 h3
      subst h2
      subst h3
      have he2 := rBlob_held hz
      subst he2
      have he1 := rBlob_held hy
      subst he1
      obtain ⟨a1, a2, a3, a4⟩ := rNum1_one hx hb hi
      obtain ⟨b1, b2, b3⟩ := rBlob_one hy hb a3
      obtain ⟨c1, c2, c3⟩ := rBlob_one hz hb b3
      have l1 := rBlob_len (m := 64) hy
      have l2 := rBlob_len (m := 256) hz
      have hx1 : x = 1 := by omega
      subst hx1
      subst h1
      refine ⟨?_, by omega, c3, ?_⟩
      · rw [take_join P (by omega : i ≤ i1) (by omega : i1 ≤ i3), take_join P b2 c2, show i1 - i = 1 by omega, ← a1, ← b1, ← c1]
        simp [enB]
      · unfold chkE
        simp only
        rw [if_neg (by omega), if_neg (by omega)]
    · rename_i h12 hk1
      injection h with h1 h2
      injection h2 with h2 h3
      subst h2
      subst h3
      have he1 := rBlob_held hy
      subst he1
      obtain ⟨a1, a2, a3, a4⟩ := rNum1_one hx hb hi
      obtain ⟨b1, b2, b3⟩ := rBlob_one hy hb a3
      have l1 := rBlob_len (m := 64) hy
      have hx1 : x = 2 := by omega
      subst hx1
      subst h1
      refine ⟨?_, by omega, b3, ?_⟩
      · rw [take_join P (by omega : i ≤ i1) (by omega : i1 ≤ i2), show i1 - i = 1 by omega, ← a1, ← b1]
        simp [enB]
      · unfold chkE
        simp only [List.length_nil]
        rw [if_neg (by omega), if_neg (by omega)]
  · injection h with h1 h2
    injection h2 with h2 h3
    omega

theorem takeN_one {P : List Nat} (hb : ∀ y ∈ P, y < 256) : ∀ (n i : Nat) (es : List En) (j : Nat), takeN P i n = (es, j, 0) → i ≤ P.length → entB es = (P.drop i).take (j - i) ∧ i ≤ j ∧ j ≤ P.length ∧ es.length = n ∧ ∀ e ∈ es, chkE e = 0
  | 0, i, es, j, h, hi => by
    simp only [takeN, Prod.mk.injEq, and_true] at h
    obtain ⟨rfl, rfl⟩ := h
    simp [entB, hi]
  | n + 1, i, es, j, h, hi => by
    obtain ⟨⟨e, i1, f1⟩, hx⟩ : ∃ t, takeE P i = t := ⟨_, rfl⟩
    simp only [takeN, hx] at h
    split at h
    · rename_i hf
      injection h with h1 h2
      injection h2 with h2 h3
      exact absurd h3 hf
    · rename_i hf
      have hf0 : f1 = 0 := Decidable.not_not.1 hf
      subst hf0
      obtain ⟨a1, a2, a3, a4⟩ := takeE_one hx hb hi
      obtain ⟨⟨es', j', f'⟩, hy⟩ : ∃ t, takeN P i1 n = t := ⟨_, rfl⟩
      rw [hy] at h
      injection h with h1 h2
      injection h2 with h2 h3
      simp only at h1 h2 h3
      subst h2
      subst h3
      obtain ⟨b1, b2, b3, b4, b5⟩ := takeN_one hb n i1 es' j' hy a3
      subst h1
      refine ⟨?_, by omega, b3, by simp [b4], ?_⟩
      · rw [take_join P a2 b2, ← a1, ← b1]; simp [entB]
      · intro x hx'
        rcases List.mem_cons.1 hx' with rfl | hx'
        · exact a4
        · exact b5 x hx'
theorem takeB_one {P : List Nat} {f j : Nat} {es : List En} (h : takeB P 0 = (f, es, j, 0)) (hb : ∀ y ∈ P, y < 256) : batB f es = P.take j ∧ j ≤ P.length ∧ chkB f es = 0 ∧ f < 18446744073709551616 := by
  unfold takeB at h
  obtain ⟨⟨x, i1, e1⟩, hx⟩ : ∃ t, rUvar P 0 0 = t := ⟨_, rfl⟩
  rw [hx] at h
  simp only at h
  obtain ⟨⟨n, i2, e2⟩, hy⟩ : ∃ t, rUvar P i1 e1 = t := ⟨_, rfl⟩
  rw [hy] at h
  simp only at h
  split at h
  · rename_i h1
    injection h with h2 h3; injection h3 with h3 h4; injection h4 with h4 h5
    exact absurd h5 h1
  rename_i he
  split at h
  · rename_i h1
    injection h with h2 h3; injection h3 with h3 h4; injection h4 with h4 h5
    exact absurd h5 h1
  rename_i hc
  have he0 : e2 = 0 := Decidable.not_not.1 he
  subst he0
  have he1 := rUvar_held hy
  subst he1
  injection h with h2 h3
  subst h2
  obtain ⟨a1, a2, a3, a4⟩ := rUvar_one hx hb (Nat.zero_le _)
  obtain ⟨b1, b2, b3, b4⟩ := rUvar_one hy hb a3
  obtain ⟨c1, c2, c3, c4, c5⟩ := takeN_one hb n i2 es j h3 b3
  refine ⟨?_, c3, chkB_iff.2 ⟨?_, c5⟩, a4⟩
  · have e0 := take_join P (Nat.zero_le i1) (by omega : i1 ≤ j)
    rw [List.drop_zero] at e0
    rw [show j = j - 0 by omega, e0, take_join P b2 c2, ← b1, ← c1]
    rw [List.drop_zero] at a1
    rw [← a1, ← c4]
    rfl
  · rw [c4]; exact Decidable.not_not.1 hc

theorem decB_one {P : List Nat} {f : Nat} {es : List En} (h : decB P = (f, es, 0)) (hb : ∀ y ∈ P, y < 256) : P = batB f es ∧ chkB f es = 0 ∧ f < 18446744073709551616 := by
  unfold decB at h
  obtain ⟨⟨f', es', j, e⟩, hx⟩ : ∃ t, takeB P 0 = t := ⟨_, rfl⟩
  rw [hx] at h
  simp only at h
  split at h
  · rename_i h1
    injection h with h2 h3; injection h3 with h3 h4
    exact absurd h4 h1
  rename_i he
  have he0 : e = 0 := Decidable.not_not.1 he
  subst he0
  obtain ⟨a1, a2, a3, a4⟩ := takeB_one hx hb
  split at h
  · rename_i h1
    injection h with h2 h3; injection h3 with h3 h4
    exact absurd h4 h1
  rename_i hd
  injection h with h2 h3; injection h3 with h3 h4
  subst h2
  subst h3
  refine ⟨?_, a3, a4⟩
  have hj : ¬ j < P.length := fun h9 => hd (by unfold doneE; rw [if_pos ⟨rfl, h9⟩]; decide)
  rw [a1, List.take_of_length_le (by omega)]
theorem decB_back {f : Nat} {es : List En} (hc : chkB f es = 0) (hf : f < 18446744073709551616) : decB (batB f es) = (f, es, 0) := by
  have h := takeB_back (P := batB f es) (r := []) (by simp) hc hf
  unfold decB
  rw [h]
  simp [doneE]
theorem decB_more {f : Nat} {es : List En} {r : List Nat} (hc : chkB f es = 0) (hf : f < 18446744073709551616) (hr : r ≠ []) : (decB (batB f es ++ r)).2.2 = 3 := by
  have h := takeB_back (P := batB f es ++ r) (r := r) rfl hc hf
  have hl : 0 < r.length := List.length_pos_iff.2 hr
  unfold decB
  rw [h]
  simp [doneE, hl]
theorem decB_less {f : Nat} {es : List En} {n : Nat} (hc : chkB f es = 0) (hf : f < 18446744073709551616) (hb : ∀ y ∈ batB f es, y < 256) (hn : n < (batB f es).length) : (decB ((batB f es).take n)).2.2 ≠ 0 := by
  intro h
  obtain ⟨⟨f', es', e⟩, hx⟩ : ∃ t, decB ((batB f es).take n) = t := ⟨_, rfl⟩
  rw [hx] at h
  simp only at h
  subst h
  obtain ⟨a1, a2, a3⟩ := decB_one hx (fun y hy => hb y (List.mem_of_mem_take hy))
  have h1 := takeB_back (P := batB f es) (r := []) (by simp) hc hf
  have h2 := takeB_back (P := batB f es) (r := (batB f es).drop n) (by rw [← a1, List.take_append_drop]) a2 a3
  rw [h1] at h2
  injection h2 with h3 h4; injection h4 with h4 h5; injection h5 with h5 h6
  have h7 := congrArg List.length a1
  rw [List.length_take] at h7
  omega

theorem decE_one {P : List Nat} {e : En} (h : decE P = (e, 0)) (hb : ∀ y ∈ P, y < 256) : P = enB e ∧ chkE e = 0 := by
  unfold decE at h
  obtain ⟨⟨e', j, f⟩, hx⟩ : ∃ t, takeE P 0 = t := ⟨_, rfl⟩
  rw [hx] at h
  simp only at h
  split at h
  · rename_i h1
    injection h with h2 h3
    exact absurd h3 h1
  rename_i he
  have he0 : f = 0 := Decidable.not_not.1 he
  subst he0
  obtain ⟨a1, a2, a3, a4⟩ := takeE_one hx hb (Nat.zero_le _)
  split at h
  · rename_i h1
    injection h with h2 h3
    exact absurd h3 h1
  rename_i hd
  injection h with h2 h3
  subst h2
  refine ⟨?_, a4⟩
  have hj : ¬ j < P.length := fun h9 => hd (by unfold doneE; rw [if_pos ⟨rfl, h9⟩]; decide)
  rw [a1, List.drop_zero, List.take_of_length_le (by omega)]
theorem decE_back {e : En} (hc : chkE e = 0) : decE (enB e) = (e, 0) := by
  have h := takeE_back (P := enB e) (i := 0) (r := []) (by simp) hc
  unfold decE
  rw [h]
  simp [doneE]
theorem decE_more {e : En} {r : List Nat} (hc : chkE e = 0) (hr : r ≠ []) : (decE (enB e ++ r)).2 = 3 := by
  have h := takeE_back (P := enB e ++ r) (i := 0) (r := r) rfl hc
  have hl : 0 < r.length := List.length_pos_iff.2 hr
  unfold decE
  rw [h]
  simp [doneE, hl]
theorem decE_less {e : En} {n : Nat} (hc : chkE e = 0) (hb : ∀ y ∈ enB e, y < 256) (hn : n < (enB e).length) : (decE ((enB e).take n)).2 ≠ 0 := by
  intro h
  obtain ⟨⟨e', f⟩, hx⟩ : ∃ t, decE ((enB e).take n) = t := ⟨_, rfl⟩
  rw [hx] at h
  simp only at h
  subst h
  obtain ⟨a1, a2⟩ := decE_one hx (fun y hy => hb y (List.mem_of_mem_take hy))
  have h1 := takeE_back (P := enB e) (i := 0) (r := []) (by simp) hc
  have h2 := takeE_back (P := enB e) (i := 0) (r := (enB e).drop n) (by rw [List.drop_zero, ← a1, List.take_append_drop]) a2
  rw [h1] at h2
  injection h2 with h3 h4; injection h4 with h4 h5
  have h7 := congrArg List.length a1
  rw [List.length_take] at h7
  omega
end Go.Proofs.YtckkalmhekfnhabGreatDoor
namespace Go.Proofs.YtckkalmhekfnhabGreatDoor
open Go.RowKit Go.BigFrame
set_option linter.unusedVariables false
set_option linter.unusedSimpArgs false

theorem batB_lenS {f : Nat} {es : List En} (h : chkB f es = 0) (hf : f < 18446744073709551616) : 0 < (batB f es).length ∧ (batB f es).length ≤ 30000 := by
  obtain ⟨h1, h2, _, h4⟩ := chkB_zero h
  have h5 := entB_len es h4
  have h6 := uv_len f hf
  have h7 := uv_len es.length (by omega)
  have h8 : 0 < (uv f).length := uv_pos f
  unfold batB
  simp only [List.length_append]
  omega
/-- The frame of a batch. -/
def sbB (f : Nat) (es : List En) : List Nat := if chkB f es = 0 then frB f (batB f es) else []

set_option maxRecDepth 100000 in
set_option maxHeartbeats 2000000 in
theorem segBatch_any (f : Nat) (v : Value) (es : List En) (w : World) (hf : f < 18446744073709551616) (h : RdN w v es) :
    Calls Tryz.prog 10 #[.agg #[.int .u64 f, v]] w fun r w' => ∃ v', r = .returned (.tuple #[v', .int .i64 (chkB f es)]) ∧ NewB w w' v' (sbB f es) ∧ Kept [] w w' := by
  have H := hide h
  obtain ⟨a1, n1, c1, _, _, rfl, _⟩ := id h
  clear h
  obtain ⟨B, hB⟩ : ∃ B, sbB f es = B := ⟨_, rfl⟩
  have HBB := hide hB.symm
  rw [hB]
  clear hB
  have HK0 := hide ((Kept.refl [] w).alloc (.cells #[.int .u64 f, .slice a1 n1 c1] 37))
  have HB0 := hide (heap_alloc_new w (.cells #[.int .u64 f, .slice a1 n1 c1] 37))
  obtain ⟨W1, hW1⟩ : ∃ W, w.alloc (.cells #[.int .u64 f, .slice a1 n1 c1] 37) = W := ⟨_, rfl⟩
  rw [hW1] at HK0 HB0
  have HW1 := hide hW1
  clear hW1
  obtain ⟨d0, d1⟩ := bcells (unhide HB0)
  rw [← unhide HW1] at d0 d1
  go_enter Tryz.func10, Tryz.ntmps10
  go_wp2_with fail
  rw [unhide HW1]
  clear d0 d1
  refine Calls.mono (encodeBatch_any f _ es W1 hf ((unhide H).old (unhide HK0))) ?_
  rintro e w2 ⟨v2, rfl, n2, k2⟩
  obtain ⟨a2, l2, c2, rfl, _⟩ := id n2.1
  have HN2 := hide n2
  have HK2 := hide ((unhide HK0).trans k2 (by simp))
  have HB2 := hide (k2.heap (unhide HB0) (by simp))
  clear n2 k2
  by_cases hc : chkB f es = 0
  · have HB := hide (by simp [sbB, hc] : sbB f es = frB f (batB f es))
    have HL := hide (batB_lenS hc hf)
    rw [if_pos hc] at HN2
    rw [hc]
    obtain ⟨d0, d1⟩ := bcells (unhide HB2)
    go_wp2_with fail
    refine Calls.mono (encode_any f _ (batB f es) w2 (unhide HN2).1 hf) ?_
    rintro e w3 ⟨v3, rfl, n3, k3⟩
    rw [encE_good (by have := (unhide HL).1; omega) (by have := (unhide HL).2; omega)]
    rw [encB_good (by have := (unhide HL).1; omega) (by have := (unhide HL).2; omega)] at n3
    have HN3 := hide n3
    have HK3 := hide ((unhide HK2).trans k3 (by simp))
    obtain ⟨a3, l3, c3, rfl, _⟩ := id n3.1
    clear n3 k3 d0 d1
    go_wp2
    go_ret2
    exact ⟨_, by rw [hc]; rfl, by rw [unhide HBB, unhide HB]; exact (unhide HN3).weak (unhide HK2).size, unhide HK3⟩
  · have HB := hide (by simp [sbB, hc] : sbB f es = [])
    have hc' : ((chkB f es : Int) != 0) = true := by rw [bne_iff_ne]; omega
    go_wp2
    go_ret2
    exact ⟨_, rfl, by rw [unhide HBB, unhide HB]; exact NewB.nil _ _, unhide HK2⟩
end Go.Proofs.YtckkalmhekfnhabGreatDoor
namespace Go.Proofs.YtckkalmhekfnhabGreatDoor
open Go.RowKit Go.BigFrame
set_option linter.unusedVariables false
set_option linter.unusedSimpArgs false

theorem results_cell_tmp {P : Program} {fn : Func} {p q : Tmp} {ty : TypeId} (h : fn.results = #[.cell p ty, .tmp q]) (tmps : Array Value) (w : World) (g : Nat) (t : TypeId) (cs : Array Value) (fr : Nat × Nat) (d : TypeDesc)
    (hp : tmps.getD p undef = .pointer (some ⟨g, 0, none⟩)) (hg : w.heap[g]? = some (.cells cs t fr))
    (hu : P.underlying ty = some d) (hd : (match d with | .struct _ | .array _ _ => true | _ => false) = true) (hi : (P.info? ty).map (·.size) = some cs.size) (v : Value) (hq : tmps.getD q undef = v) :
    (results fn tmps).run P w = .ok (.tuple #[.agg cs, v]) w := by
  have hp' : tmps[p]?.getD undef = .pointer (some ⟨g, 0, none⟩) := by simpa using hp
  have hq' : tmps[q]?.getD undef = v := by simpa using hq
  simp [results, h, hp', hq', asAddr, run_loadVar_row w g t ty cs fr d hg hu hd hi]
/-- What a batch reads stays, whatever turns outside its own memory. -/
theorem NewN.stay {B : Nat} {M : List Nat} {w w' : World} {v : Value} {es : List En} (h : NewN B w v es) (k : Kept M w w') (hM : ∀ x ∈ M, x < B ∨ w.heap.size ≤ x) : RdN w' v es := by
  have k2 : Kept (M.filter (· < B)) w w' := ⟨k.os, k.tape, k.output, k.size, fun j hj hn => k.block j hj (fun hm => hn (by
    rw [List.mem_filter]
    refine ⟨hm, ?_⟩
    have := hM j hm
    simp; omega))⟩
  exact (h.kept k2 (fun x hx => by rw [List.mem_filter] at hx; simpa using hx.2)).rdN
/-- The cells of batches. -/
def cellsB (ts : List (Nat × Value × List En)) : List Value := ts.flatMap fun t => [.int .u64 (t.1 : Int), t.2.1]
theorem cellsB_app (ts : List (Nat × Value × List En)) (t : Nat × Value × List En) : cellsB (ts ++ [t]) = cellsB ts ++ [.int .u64 (t.1 : Int), t.2.1] := by simp [cellsB]
theorem cellsB_get : ∀ (ts : List (Nat × Value × List En)) (i : Nat) (h : i < ts.length), (cellsB ts)[2 * i]? = some (.int .u64 (ts[i].1 : Int)) ∧ (cellsB ts)[2 * i + 1]? = some ts[i].2.1
  | t :: r, 0, _ => by simp [cellsB]
  | t :: r, i + 1, h => by
    have h' : i < r.length := by simpa using h
    have := cellsB_get r i h'
    have e : cellsB (t :: r) = (.int .u64 (t.1 : Int)) :: t.2.1 :: cellsB r := by simp [cellsB]
    rw [e, show 2 * (i + 1) = 2 * i + 1 + 1 by omega]
    simpa using this
theorem Tryz.infoBt : (Tryz.prog.info? 37).map (fun i => (i.zero, i.size, i.bytes)) = some (some (.agg #[.int .u64 0, .slice none 0 0]), 2, 32) := by kernel_rfl
/-- Batches that are owned, each with memory of its own. -/
structure OwnB (w0 w : World) (v : Value) (ts : List (Nat × Value × List En)) : Prop where
  own : w.ownsRow w0.heap.size 37 2 v ts.length (cellsB ts)
  rd : ∀ t ∈ ts, ∃ B C, C ≤ w.heap.size ∧ w0.heap.size ≤ B ∧ (∀ b, v.ownBlock = some b → b < B ∨ C ≤ b) ∧ ∀ M w', Kept M w w' → (∀ x ∈ M, x < B ∨ C ≤ x) → RdN w' t.2.1 t.2.2
  sz : w0.heap.size ≤ w.heap.size
/-- The slice value v reads as these batches. -/
def RdB (w : World) (v : Value) (bs : List (Nat × List En)) : Prop :=
  ∃ (ao : Option Addr) (cap : Nat) (ts : List (Nat × Value × List En)), v = .slice ao ts.length cap ∧ bs = ts.map (fun t => (t.1, t.2.2)) ∧ ts.length ≤ cap ∧ cap ≤ 9223372036854775807 ∧ (∀ t ∈ ts, RdN w t.2.1 t.2.2) ∧
    (0 < ts.length → ∃ b off, ao = some ⟨b, off, none⟩ ∧ ∀ i (h : i < ts.length), w.cell? ⟨b, off + i * 2, none⟩ = some (.int .u64 (ts[i].1 : Int)) ∧ w.cell? ⟨b, off + i * 2 + 1, none⟩ = some ts[i].2.1)
theorem RdB.old {w w' : World} {v : Value} {fs : List (Nat × List En)} (h : RdB w v fs) (k : Kept [] w w') : RdB w' v fs := by
  obtain ⟨ao, cap, ts, h1, h2, h3, h4, h5, h6⟩ := h
  refine ⟨ao, cap, ts, h1, h2, h3, h4, fun t ht => (h5 t ht).old k, fun hp => ?_⟩
  obtain ⟨b, off, e, hc⟩ := h6 hp
  exact ⟨b, off, e, fun i hi => ⟨k.cell (hc i hi).1 (by simp), k.cell (hc i hi).2 (by simp)⟩⟩
theorem RdB.nil (w : World) : RdB w (.slice none 0 0) [] := ⟨none, 0, [], rfl, rfl, Nat.le_refl _, by omega, by simp, fun h => by simp at h⟩
theorem OwnB.start (w : World) : OwnB w w (.slice none 0 0) [] := ⟨World.ownsRow_nil _ _ _ _, by simp, Nat.le_refl _⟩
theorem OwnB.rdB {w0 w : World} {v : Value} {ts : List (Nat × Value × List En)} (h : OwnB w0 w v ts) : RdB w v (ts.map fun t => (t.1, t.2.2)) := by
  have hr : ∀ t ∈ ts, RdN w t.2.1 t.2.2 := fun t ht => by obtain ⟨B, C, _, _, _, h5⟩ := h.rd t ht; exact h5 [] w (Kept.refl _ _) (by simp)
  rcases h.own.2 with ⟨rfl, h0⟩ | ⟨g, cap, cur, rfl, _, hg, hc, hm', hs, ht⟩
  · have : ts = [] := List.eq_nil_of_length_eq_zero h0
    subst this
    exact RdB.nil _
  · refine ⟨some ⟨g, 0, none⟩, cap, ts, rfl, rfl, hc, by unfold maxLen at hm'; omega, hr, fun _ => ⟨g, 0, rfl, fun i hi => ?_⟩⟩
    have hx := cellsB_get ts i hi
    have c1 := h.own.cells (g := g) rfl (2 * i) _ hx.1
    have c2 := h.own.cells (g := g) rfl (2 * i + 1) _ hx.2
    rw [Addr.add_mid] at c1 c2
    refine ⟨?_, ?_⟩
    · rw [show 0 + i * 2 = 0 + 2 * i by omega]; exact c1
    · rw [show 0 + i * 2 + 1 = 0 + (2 * i + 1) by omega]; exact c2
theorem OwnB.pass {w0 w w' : World} {M : List Nat} {v : Value} {ts : List (Nat × Value × List En)} (h : OwnB w0 w v ts) (k : Kept M w w') (hM : ∀ x ∈ M, x < w0.heap.size) : OwnB w0 w' v ts := by
  refine ⟨k.owns h.own (fun b hb hm => by have := (h.own.lt b hb).1; have := hM b hm; omega), fun t ht => ?_, Nat.le_trans h.sz k.size⟩
  obtain ⟨B, C, h1, h2, h3, h4⟩ := h.rd t ht
  refine ⟨B, C, Nat.le_trans h1 k.size, h2, h3, fun N w2 kN hN => h4 (M ++ N) w2 ((k.mono (M := M ++ N) (fun x hx => by simp [hx])).trans kN (fun x hx => Or.inl (by simp [hx]))) (fun x hx => ?_)⟩
  rcases List.mem_append.1 hx with hx | hx
  · have := hM x hx; omega
  · exact hN x hx
theorem OwnB.push {w0 w W : World} {v : Value} {ts : List (Nat × Value × List En)} (h : OwnB w0 w v ts) {pl B : Nat} {y : Value} {es : List En} (hy : NewN B w y es) (hB : w0.heap.size ≤ B) (hBv : ∀ b, v.ownBlock = some b → b < B) {g cap : Nat}
    (o : W.ownsRow w0.heap.size 37 2 (.slice (some ⟨g, 0, none⟩) (ts.length + 1) cap) (ts.length + 1) (cellsB ts ++ [.int .u64 (pl : Int), y])) (gr : w.grownBy W v.ownBlock) (hg : v.ownBlock = some g ∨ g = w.heap.size) :
    OwnB w0 W (.slice (some ⟨g, 0, none⟩) (ts.length + 1) cap) (ts ++ [(pl, y, es)]) := by
  have kW : Kept v.ownBlock.toList w W := ((Kept.refl _ w)).grown gr (by intro k hk; left; simp [hk])
  refine ⟨by rw [cellsB_app, List.length_append]; exact o, fun t ht => ?_, Nat.le_trans h.sz kW.size⟩
  rcases List.mem_append.1 ht with ht | ht
  · obtain ⟨B1, C, h1, h2, h3, h4⟩ := h.rd t ht
    refine ⟨B1, C, Nat.le_trans h1 kW.size, h2, fun b hb => ?_, fun N w2 kN hN => h4 (v.ownBlock.toList ++ N) w2 ((kW.mono (M := v.ownBlock.toList ++ N) (fun x hx => List.mem_append_left _ hx)).trans kN (fun x hx => Or.inl (by simp [hx]))) (fun x hx => ?_)⟩
    · simp only [Value.ownBlock, Option.some.injEq] at hb
      subst hb
      rcases hg with hg | hg
      · exact h3 _ hg
      · omega
    · rcases List.mem_append.1 hx with hx | hx
      · exact h3 x (by simpa using hx)
      · exact hN x hx
  · rw [List.mem_singleton] at ht
    subst ht
    refine ⟨B, w.heap.size, kW.size, hB, fun b hb => ?_, fun N w2 kN hN => hy.stay (M := v.ownBlock.toList ++ N) ((kW.mono (M := v.ownBlock.toList ++ N) (fun x hx => List.mem_append_left _ hx)).trans kN (fun x hx => Or.inl (by simp [hx]))) (fun x hx => ?_)⟩
    · simp only [Value.ownBlock, Option.some.injEq] at hb
      subst hb
      rcases hg with hg | hg
      · exact Or.inl (hBv _ hg)
      · omega
    · rcases List.mem_append.1 hx with hx | hx
      · exact Or.inl (hBv x (by simpa using hx))
      · exact hN x hx
/-- One batch more. -/
theorem pushB (w : World) (base : Nat) (v : Value) (ts : List (Nat × Value × List En)) (pl : Nat) (x : Value) (H : Nat) (h : w.ownsRow base 37 2 v ts.length (cellsB ts)) (hnew : w.heap[H]? = some (.cells #[.int .u64 (pl : Int), x] 37 (0, 0))) (hx : x.oneCell' = true) (hl : ts.length + 1 ≤ 1000000000000) (hb : base ≤ w.heap.size) :
    ∃ g cap w1, (Builtin.append_ #[38, 38] 38 #[v, .slice (some ⟨H, 0, none⟩) 1 1]).run Tryz.prog w = .ok (.slice (some ⟨g, 0, none⟩) (ts.length + 1) cap) w1 ∧
      w1.ownsRow base 37 2 (.slice (some ⟨g, 0, none⟩) (ts.length + 1) cap) (ts.length + 1) (cellsB ts ++ [.int .u64 (pl : Int), x]) ∧ w.grownBy w1 v.ownBlock ∧ (v.ownBlock = some g ∨ g = w.heap.size) := by
  obtain ⟨i0, hi, hz0, hz1, hz2⟩ := info_parts Tryz.infoBt
  obtain ⟨g, cap, w1, hr, hown, hgrow, hat, hlt⟩ := run_append_lies (P := Tryz.prog) w 38 38 base 37 i0 (.agg #[.int .u64 0, .slice none 0 0]) 2 32 Tryz.underlying38 hi hz0 hz1 hz2 rfl (by decide)
    v ts.length (cellsB ts) h ⟨H, 0, none⟩ 1 1 [.int .u64 (pl : Int), x] rfl (World.news_of_block hnew) (by intro u hu; simp at hu; rcases hu with rfl | rfl; rfl; exact hx) (by decide) (by unfold maxLen; omega) (by omega) hb _ rfl
  exact ⟨g, cap, w1, hr, hown, hgrow, hat⟩
theorem wpList_pushB {ops : Array Oper} {rest : List Oper} {o : Oper} {a : Act} {Q : Exit → Act → World → Prop} (hgd : o.guard = none) (s x : Operand)
    (ho : o.op = .call { callee := .builtin .append, args := #[s, x], argTypes := #[38, 38] }) (hty : o.type = 38)
    (w : World) (base : Nat) (v : Value) (ts : List (Nat × Value × List En)) (pl : Nat) (y : Value) (H : Nat) (h : w.ownsRow base 37 2 v ts.length (cellsB ts)) (hnew : w.heap[H]? = some (.cells #[.int .u64 (pl : Int), y] 37 (0, 0))) (hy : y.oneCell' = true) (hl : ts.length + 1 ≤ 1000000000000) (hb : base ≤ w.heap.size)
    (hs : a.eval s = v) (hx : a.eval x = .slice (some ⟨H, 0, none⟩) 1 1)
    (hK : ∀ g cap w1, Hid (w1.ownsRow base 37 2 (.slice (some ⟨g, 0, none⟩) (ts.length + 1) cap) (ts.length + 1) (cellsB ts ++ [.int .u64 (pl : Int), y])) → Hid (w.grownBy w1 v.ownBlock) → Hid (v.ownBlock = some g ∨ g = w.heap.size) →
      wpList Tryz.prog ops Q rest (a.put o.dst (.slice (some ⟨g, 0, none⟩) (ts.length + 1) cap)) w1) :
    wpList Tryz.prog ops Q (o :: rest) a w := by
  obtain ⟨g, cap, w1, hrun, h2, h3, h4⟩ := pushB w base v ts pl y H h hnew hy hl hb
  refine wpList_plain hgd fun K hK' => ?_
  unfold Oper.wp execOp
  simp only [ho, hty, resolve, invoke, builtin, Sem.run_bind, Sem.run_pure, Result.andThen_ok, List.map_toArray, List.map_cons, List.map_nil, hs, hx, hrun]
  exact hK' _ _ (hK g cap w1 h2 h3 h4)

theorem scells {w : World} {b : Nat} {x0 x1 x2 x3 x4 x5 : Value} {t : TypeId} (h : w.heap[b]? = some (.cells #[x0, x1, x2, x3, x4, x5] t (0, 0))) : w.cell? ⟨b, 0, none⟩ = some x0 ∧ w.cell? ⟨b, 1, none⟩ = some x1 ∧ w.cell? ⟨b, 2, none⟩ = some x2 ∧ w.cell? ⟨b, 3, none⟩ = some x3 ∧ w.cell? ⟨b, 4, none⟩ = some x4 ∧ w.cell? ⟨b, 5, none⟩ = some x5 := by
  refine ⟨?_, ?_, ?_, ?_, ?_, ?_⟩ <;> rw [cell_of_row _ _ _ _ _ _ h] <;> rfl
theorem sfroz {w : World} {b : Nat} {cs : Array Value} {t : TypeId} (h : w.heap[b]? = some (.cells cs t (0, 0))) : w.frozen? ⟨b, 0, none⟩ = false ∧ w.frozen? ⟨b, 1, none⟩ = false ∧ w.frozen? ⟨b, 2, none⟩ = false ∧ w.frozen? ⟨b, 3, none⟩ = false ∧ w.frozen? ⟨b, 4, none⟩ = false ∧ w.frozen? ⟨b, 5, none⟩ = false :=
  ⟨frozen_of_row _ _ _ _ _ h, frozen_of_row _ _ _ _ _ h, frozen_of_row _ _ _ _ _ h, frozen_of_row _ _ _ _ _ h, frozen_of_row _ _ _ _ _ h, frozen_of_row _ _ _ _ _ h⟩
theorem put6_heap {w : World} {g : Nat} {a b c d e f : Value} {t : TypeId} (h : w.heap[g]? = some (.cells #[a, b, c, d, e, f] t (0, 0))) (x y z u r s : Value) : ((((((w.setCell ⟨g, 0, none⟩ x).setCell ⟨g, 1, none⟩ y).setCell ⟨g, 2, none⟩ z).setCell ⟨g, 3, none⟩ u).setCell ⟨g, 4, none⟩ r).setCell ⟨g, 5, none⟩ s).heap[g]? = some (.cells #[x, y, z, u, r, s] t (0, 0)) := by
  rw [heap_setCell_same _ g 5 _ t _ (heap_setCell_same _ g 4 _ t _ (heap_setCell_same _ g 3 _ t _ (heap_setCell_same _ g 2 _ t _ (heap_setCell_same _ g 1 _ t _ (heap_setCell_same w g 0 _ t _ h)))))]; rfl
theorem put6_kept {L : List Nat} {w0 w : World} (k : Kept L w0 w) (g : Nat) (hg : g ∈ L ∨ w0.heap.size ≤ g) (x y z u r s : Value) : Kept L w0 ((((((w.setCell ⟨g, 0, none⟩ x).setCell ⟨g, 1, none⟩ y).setCell ⟨g, 2, none⟩ z).setCell ⟨g, 3, none⟩ u).setCell ⟨g, 4, none⟩ r).setCell ⟨g, 5, none⟩ s) := (((((k.setCell hg x).setCell hg y).setCell hg z).setCell hg u).setCell hg r).setCell hg s
theorem Tryz.size_seg : (Tryz.prog.info? 40).map (·.size) = some 6 := by kernel_rfl
theorem put45_heap {w : World} {g : Nat} {a b c d e f : Value} {t : TypeId} (h : w.heap[g]? = some (.cells #[a, b, c, d, e, f] t (0, 0))) (r s : Value) : ((w.setCell ⟨g, 4, none⟩ r).setCell ⟨g, 5, none⟩ s).heap[g]? = some (.cells #[a, b, c, d, r, s] t (0, 0)) := by
  rw [heap_setCell_same _ g 5 _ t _ (heap_setCell_same _ g 4 _ t _ h)]; rfl

/-- The batches from the place z on, the next index being i, and where they end. -/
def rdL : Nat → List Nat → Nat → Nat → List (Nat × List En) × Nat
  | 0, _, z, _ => ([], z)
  | k + 1, p, z, i => if rbOk p z i then ((i, rbE p z i) :: (rdL k p (rbN p z i).toNat ((i + (rbE p z i).length) % 18446744073709551616)).1, (rdL k p (rbN p z i).toNat ((i + (rbE p z i).length) % 18446744073709551616)).2) else ([], z)
theorem rdL_no {k z i : Nat} {p : List Nat} (h : rbOk p z i = false) : rdL k p z i = ([], z) := by
  cases k with
  | zero => rfl
  | succ k => rw [rdL, h]; rfl
theorem rdL_yes {k z i : Nat} {p : List Nat} (h : rbOk p z i = true) : rdL (k + 1) p z i = ((i, rbE p z i) :: (rdL k p (rbN p z i).toNat ((i + (rbE p z i).length) % 18446744073709551616)).1, (rdL k p (rbN p z i).toNat ((i + (rbE p z i).length) % 18446744073709551616)).2) := by
  rw [rdL, if_pos h]
/-- What Read answers. -/
def sgB (p : List Nat) : List (Nat × List En) := if (hdF p).isSome then (rdL p.length p 48 (hdC p).c).1 else []
def sgU (p : List Nat) : Nat := if (hdF p).isSome then (rdL p.length p 48 (hdC p).c).2 else 0
def sgE (p : List Nat) : Nat := if (hdF p).isSome then 0 else 3
theorem rb_next {p : List Nat} {z i : Nat} (hb : ∀ x ∈ p, x < 256) (h : rbOk p z i = true) : ∃ n : Nat, rbN p z i = (n : Int) ∧ z + 18 < n ∧ n ≤ p.length := by
  have hn : rbN p z i = (nextF p z).next := by simp [rbN, h]
  have hk : (nextF p z).kind = 1 := by unfold rbOk at h; simp at h; exact h.1
  rcases nextF_cases p z hb with ⟨_, hN⟩ | ⟨_, hN⟩ | ⟨m, pl, pay, hzn, hN, b1, b2, b3, b4, b5, b6, b7⟩
  · rw [hN] at hk; simp at hk
  · rw [hN] at hk; simp at hk
  · rw [hN] at hn
    refine ⟨m + 18 + pay.length, hn, by omega, b5⟩
end Go.Proofs.YtckkalmhekfnhabGreatDoor
namespace Go.Proofs.YtckkalmhekfnhabGreatDoor
open Go.RowKit Go.BigFrame
set_option linter.unusedVariables false
set_option linter.unusedSimpArgs false

set_option maxRecDepth 100000 in
set_option maxHeartbeats 4000000 in
theorem read_any (v : Value) (p : List Nat) (w : World) (h : Rd w v p) (hl : p.length ≤ 100000000000) :
    Calls Tryz.prog 11 #[v] w fun e w' => ∃ bv, e = .returned (.tuple #[.agg #[.int .u64 (hdC p).a, .int .u64 (hdC p).b, .int .u64 (hdC p).c, .int .i64 (hdC p).d, bv, .int .i64 (sgU p)], .int .i64 (sgE p)]) ∧ RdB w' bv (sgB p) ∧ Kept [] w w' ∧ ∀ M w2, Kept M w' w2 → (∀ x ∈ M, x < w.heap.size) → RdB w2 bv (sgB p) := by
  have H := hide h
  obtain ⟨a1, n1, c1, rfl, hn1, _⟩ := id h
  subst hn1
  clear h
  have HZ0 := hide (heap_alloc_new w (.cells #[.int .u64 0, .int .u64 0, .int .u64 0, .int .i64 0, .slice none 0 0, .int .i64 0] 40))
  have HK0 := hide ((Kept.refl [] w).alloc (.cells #[.int .u64 0, .int .u64 0, .int .u64 0, .int .i64 0, .slice none 0 0, .int .i64 0] 40))
  have HLP := hide hl
  obtain ⟨X, hX⟩ : ∃ X, hdC p = X := ⟨_, rfl⟩
  obtain ⟨T, hT⟩ : ∃ T, rdL p.length p 48 X.c = T := ⟨_, rfl⟩
  obtain ⟨U, hU⟩ : ∃ U, sgU p = U := ⟨_, rfl⟩
  obtain ⟨S, hS⟩ : ∃ S, sgB p = S := ⟨_, rfl⟩
  obtain ⟨E, hE⟩ : ∃ E, sgE p = E := ⟨_, rfl⟩
  rw [hX, hU, hS, hE]
  have HNO := hide (fun (h0 : (hdF p).isSome = false) => by
    rw [← hU, ← hS, ← hE]
    exact ⟨by rw [← hX]; rw [Option.isSome_eq_false_iff, Option.isNone_iff_eq_none] at h0; simp [hdC, h0], by simp [sgU, h0], by simp [sgB, h0], by simp [sgE, h0]⟩ : (hdF p).isSome = false → X = ⟨0, 0, 0, 0⟩ ∧ U = 0 ∧ S = [] ∧ E = 3)
  have HYE := hide (fun (h0 : (hdF p).isSome = true) => by
    rw [← hU, ← hS, ← hE, ← hT, ← hX]
    exact ⟨by simp [sgU, h0], by simp [sgB, h0], by simp [sgE, h0]⟩ : (hdF p).isSome = true → U = T.2 ∧ S = T.1 ∧ E = 0)
  have HT := hide hT
  have HN48 := hide (by simp [hdN] : hdN p = if (hdF p).isSome then 48 else 0)
  clear hT hU hS hE hl
  go_enter Tryz.func11, Tryz.ntmps11
  go_wp2_with fail
  refine Calls.mono (readHead_any _ p _ ((unhide H).old (unhide HK0) (by simp))) ?_
  rintro e w1 ⟨rfl, k1⟩
  rw [hX, unhide HN48]
  clear hX
  have HZ1 := hide (k1.heap (unhide HZ0) (by simp))
  have HK1 := hide ((unhide HK0).trans k1 (by simp))
  clear k1
  have HHW := hide (heap_alloc_new w1 (.cells #[.int .u64 (X.a : Int), .int .u64 (X.b : Int), .int .u64 (X.c : Int), .int .i64 (X.d : Int)] 33))
  have HKW := hide ((unhide HK1).alloc (.cells #[.int .u64 (X.a : Int), .int .u64 (X.b : Int), .int .u64 (X.c : Int), .int .i64 (X.d : Int)] 33))
  have HZW := hide (((Kept.refl [] w1).alloc (.cells #[.int .u64 (X.a : Int), .int .u64 (X.b : Int), .int .u64 (X.c : Int), .int .i64 (X.d : Int)] 33)).heap (unhide HZ1) (by simp))
  obtain ⟨W1, hW1⟩ : ∃ W, w1.alloc (.cells #[.int .u64 (X.a : Int), .int .u64 (X.b : Int), .int .u64 (X.c : Int), .int .i64 (X.d : Int)] 33) = W := ⟨_, rfl⟩
  rw [hW1] at HHW HKW HZW
  have HW1 := hide hW1
  clear hW1
  obtain ⟨d0, d1, d2, d3, d4, d5⟩ := scells (unhide HZW)
  obtain ⟨f0, f1, f2, f3, f4, f5⟩ := sfroz (unhide HZW)
  obtain ⟨g0, g1, g2, g3⟩ := hcells (unhide HHW)
  rw [← unhide HW1] at d0 d1 d2 d3 d4 d5 f0 f1 f2 f3 f4 f5 g0 g1 g2 g3
  by_cases hok : (hdF p).isSome = true
  · rw [hok]
    simp only [if_true]
    rw [show ((48 : Nat) : Int) = 48 from rfl]
    have HV := hide (unhide HYE hok)
    clear hok HYE HNO HN48
    have HS0 := hide (heap_alloc_new W1 (.cells #[.int .u64 (X.a : Int), .int .u64 (X.b : Int), .int .u64 (X.c : Int), .int .i64 (X.d : Int), .slice none 0 0, .int .i64 48] 40))
    have HKS := hide ((Kept.refl [] W1).alloc (.cells #[.int .u64 (X.a : Int), .int .u64 (X.b : Int), .int .u64 (X.c : Int), .int .i64 (X.d : Int), .slice none 0 0, .int .i64 48] 40))
    have HSZ := hide (by rw [← unhide HW1]; simp : W1.heap.size = w1.heap.size + 1)
    rw [unhide HSZ] at HS0
    go_wp2_with fail
    rw [unhide HW1]
    have HZS := hide ((unhide HKS).heap (unhide HZW) (by simp))
    have HKw := hide ((unhide HKW).trans (unhide HKS) (by simp))
    have HLT := hide (by have := lt_of_block (unhide HZ1); omega : w.heap.size < w1.heap.size + 1)
    obtain ⟨W2, hW2⟩ : ∃ W, W1.alloc (.cells #[.int .u64 (X.a : Int), .int .u64 (X.b : Int), .int .u64 (X.c : Int), .int .i64 (X.d : Int), .slice none 0 0, .int .i64 48] 40) = W := ⟨_, rfl⟩
    have HS2 := hide (by rw [← hW2]; simp [unhide HSZ] : W2.heap.size = w1.heap.size + 1 + 1)
    rw [hW2] at HS0 HKS HZS HKw ⊢
    clear hW2 d0 d1 d2 d3 d4 d5 f0 f1 f2 f3 f4 f5 g0 g1 g2 g3 HKS
    go_loopw [8] (fun t8 wr => ∃ (n f i : Nat) (bv : Value) (ts : List (Nat × Value × List En)), t8 = .int .u64 (i : Int) ∧ Hid (n ≤ p.length + 48 ∧ p.length ≤ n + f ∧ ts.length ≤ n) ∧ Hid (T = (ts.map (fun t => (t.1, t.2.2)) ++ (rdL f p n i).1, (rdL f p n i).2)) ∧ Hid (wr.heap[w1.heap.size + 1]? = some (.cells #[.int .u64 (X.a : Int), .int .u64 (X.b : Int), .int .u64 (X.c : Int), .int .i64 (X.d : Int), bv, .int .i64 (n : Int)] 40 (0, 0))) ∧ Hid (OwnB W2 wr bv ts) ∧ Hid (Kept [] w wr) ∧ Hid (wr.heap[w.heap.size]? = some (.cells #[.int .u64 0, .int .u64 0, .int .u64 0, .int .i64 0, .slice none 0 0, .int .i64 0] 40 (0, 0)))) (fun _ wr => p.length - (intOf ((wr.cell? ⟨w1.heap.size + 1, 5, none⟩).getD undef)).toNat)
    case atStart => exact ⟨48, p.length, X.c, .slice none 0 0, [], rfl, hide ⟨by omega, by omega, by simp⟩, hide (by rw [unhide HT]; simp), HS0, hide (OwnB.start _), HKw, HZS⟩
    case round =>
      obtain ⟨n, f, i, bv, ts, rfl, HN, HR, HS, HO, HK, HZ⟩ := hrel
      obtain ⟨s0, s1, s2, s3, s4, s5⟩ := scells (unhide HS)
      have HC5 := hide s5
      go_wp2_with fail
      refine Calls.mono (readBatch_any _ p (n : Int) i wr ((unhide H).old (unhide HK) (by simp)) (by have := (unhide HN).1; have := unhide HLP; omega)) ?_
      rintro e w3 ⟨b3, rfl, nb, k3⟩
      obtain ⟨a3, n3, c3, _, _, hb3, hl3, _⟩ := id nb.rdN
      subst hb3
      have HL3 := hide hl3
      have HNB := hide nb
      have HSB := hide (k3.size)
      have HO3 := hide ((unhide HO).pass k3 (by simp))
      have HS3 := hide (k3.heap (unhide HS) (by simp))
      have HZ3 := hide (k3.heap (unhide HZ) (by simp))
      have HK3 := hide ((unhide HK).trans k3 (by simp))
      have HBB := hide (fun b hb => ((unhide HO).own.lt b hb).2 : ∀ b, bv.ownBlock = some b → b < wr.heap.size)
      have HWB := hide ((unhide HO).sz)
      clear k3 nb s0 s1 s2 s3 s4 s5 hl3 HS HO HK HZ
      obtain ⟨R, hRR⟩ : ∃ R, rbF p (n : Int) i = R := ⟨_, rfl⟩
      obtain ⟨V, hVV⟩ : ∃ V, rbN p (n : Int) i = V := ⟨_, rfl⟩
      rw [hRR, hVV]
      have HBW := hide (heap_alloc_new w3 (.cells #[.int .u64 (R : Int), .slice a3 n3 c3] 37))
      have KA := hide ((Kept.refl [] w3).alloc (.cells #[.int .u64 (R : Int), .slice a3 n3 c3] 37))
      obtain ⟨W4, hW4⟩ : ∃ W, w3.alloc (.cells #[.int .u64 (R : Int), .slice a3 n3 c3] 37) = W := ⟨_, rfl⟩
      rw [hW4] at HBW KA
      have HW4 := hide hW4
      clear hW4
      have HS4 := hide ((unhide KA).heap (unhide HS3) (by simp))
      have HZ4 := hide ((unhide KA).heap (unhide HZ3) (by simp))
      obtain ⟨s0, s1, s2, s3, s4, s5⟩ := scells (unhide HS4)
      obtain ⟨g0, g1⟩ := bcells (unhide HBW)
      obtain ⟨z0, z1, z2, z3, z4, z5⟩ := scells (unhide HZ4)
      obtain ⟨f0, f1, f2, f3, f4, f5⟩ := sfroz (unhide HZ4)
      rw [← unhide HW4] at s0 s1 s2 s3 s4 s5 g0 g1 z0 z1 z2 z3 z4 z5 f0 f1 f2 f3 f4 f5
      by_cases hrb : rbOk p (n : Int) i = true
      · rw [hrb]
        obtain ⟨m, hm, hm1, hm2⟩ := rb_next (unhide H).byte hrb
        have HRI := hide (by rw [← hRR]; simp [rbF, hrb] : R = i)
        obtain ⟨f', rfl⟩ : ∃ f', f = f' + 1 := ⟨f - 1, by have := (unhide HN).2.1; omega⟩
        have HE := hide (rdL_yes (k := f') hrb)
        rw [hm, Int.toNat_natCast] at HE
        obtain rfl : V = (m : Int) := by rw [← hVV, hm]
        obtain ⟨es, hes⟩ : ∃ es, rbE p (n : Int) i = es := ⟨_, rfl⟩
        rw [hes] at HE HNB HL3
        have HM := hide (⟨hm1, hm2⟩ : n + 18 < m ∧ m ≤ p.length)
        clear hrb hm hm1 hm2 hVV hRR hes
        have HO4 := hide (((unhide HO3).pass (unhide KA) (by simp)).pass ((Kept.refl [] W4).alloc (.cells #[.int .u64 (R : Int), .slice a3 n3 c3] 37)) (by simp))
        have HX4 := hide (((Kept.refl [] W4).alloc (.cells #[.int .u64 (R : Int), .slice a3 n3 c3] 37)).heap (unhide HS4) (by simp))
        have HY4 := hide (((Kept.refl [] W4).alloc (.cells #[.int .u64 (R : Int), .slice a3 n3 c3] 37)).heap (unhide HZ4) (by simp))
        have HG4 := hide (((Kept.refl [] W4).alloc (.cells #[.int .u64 (R : Int), .slice a3 n3 c3] 37)).heap (unhide HBW) (by simp))
        have HK4 := hide (((unhide HK3).trans (unhide KA) (by simp)).alloc (.cells #[.int .u64 (R : Int), .slice a3 n3 c3] 37))
        have HN4 := hide (((unhide HNB).kept (unhide KA) (by simp)).kept ((Kept.refl [] W4).alloc (.cells #[.int .u64 (R : Int), .slice a3 n3 c3] 37)) (by simp))
        have HH4 := hide (by rw [← unhide HW4]; exact heap_alloc2_new _ _ _ : (W4.alloc (.cells #[.int .u64 (R : Int), .slice a3 n3 c3] 37)).heap[w3.heap.size + 1]? = some (.cells #[.int .u64 (R : Int), .slice a3 n3 c3] 37 (0, 0)))
        rw [← unhide HW4] at HO4 HX4 HY4 HG4 HK4 HN4 HH4
        have HNB4 := hide (fun b hb => by have := unhide HBB b hb; have := unhide HSB; exact Nat.ne_of_lt (by omega) : ∀ b, bv.ownBlock = some b → b ≠ w3.heap.size)
        have HNS4 := hide (fun b hb => by have := ((unhide HO3).own.lt b hb).1; have := unhide HS2; omega : ∀ b, bv.ownBlock = some b → b ≠ w1.heap.size + 1)
        have HNZ4 := hide (fun b hb => by have := ((unhide HO3).own.lt b hb).1; have := unhide HS2; have := unhide HLT; omega : ∀ b, bv.ownBlock = some b → b ≠ w.heap.size)
        go_upto_region 10 with (at_builtin; refine wpList_pushB rfl (.tmp 39) (.tmp 41) rfl rfl _ W2.heap.size bv ts R (.slice a3 n3 c3) (w3.heap.size + 1) (unhide HO4).own (unhide HH4) rfl (by have := unhide HN; have := unhide HLP; omega) (unhide HO4).sz rfl rfl ?_; intro g cap w5 HO5 HG5 HA5; (have HX5 := hide (((Kept.refl (bv.ownBlock.toList) _).grown (unhide HG5) (by intro k hk; left; simp [hk])).heap (unhide HX4) (by intro hm; exact unhide HNS4 _ (by simpa using hm) rfl))); (obtain ⟨x0, x1, x2, x3, x4, x5⟩ := scells (unhide HX5)); (obtain ⟨q0, q1, q2, q3, q4, q5⟩ := sfroz (unhide HX5)))
        have HK5 := hide ((Kept.refl (bv.ownBlock.toList) _).grown (unhide HG5) (by intro k hk; left; simp [hk]))
        have HB5 := hide ((unhide HK5).heap (unhide HG4) (by intro hm; exact unhide HNB4 _ (by simpa using hm) rfl))
        have HZ5 := hide ((unhide HK5).heap (unhide HY4) (by intro hm; exact unhide HNZ4 _ (by simpa using hm) rfl))
        have HP5 := hide ((unhide HO4).push (unhide HN4) (unhide HWB) (unhide HBB) (unhide HO5) (unhide HG5) (unhide HA5))
        have HKW5 := hide ((unhide HK4).grown (unhide HG5) (fun k hk => Or.inr (by have := ((unhide HO3).own.lt k hk).1; have := unhide HS2; have := unhide HLT; omega)))
        have HSS := hide (by have := lt_of_block (unhide HX5); have := (unhide HO3).sz; have := unhide HS2; have := unhide HWB; have := unhide HSB; omega : w1.heap.size + 1 ≠ w3.heap.size)
        clear x0 x1 x2 x3 x4 x5 q0 q1 q2 q3 q4 q5 HO5 HG5 HA5 HO4 HX4 HY4 HG4 HK4 HN4 HH4 HNB4 HNS4 HNZ4 HK5 s0 s1 s2 s3 s4 s5 g0 g1 z0 z1 z2 z3 z4 z5 f0 f1 f2 f3 f4 f5 HW4 HBW KA HS4 HZ4
        have HX6 := hide (put45_heap (unhide HX5) (.slice (some ⟨g, 0, none⟩) (ts.length + 1) cap) (.int .i64 (m : Int)))
        have HK6 := hide (((Kept.refl [w1.heap.size + 1] w5).setCell (p := ⟨w1.heap.size + 1, 4, none⟩) (Or.inl (by simp)) (.slice (some ⟨g, 0, none⟩) (ts.length + 1) cap)).setCell (p := ⟨w1.heap.size + 1, 5, none⟩) (Or.inl (by simp)) (.int .i64 (m : Int)))
        have HKW6 := hide (((unhide HKW5).setCell (p := ⟨w1.heap.size + 1, 4, none⟩) (Or.inr (by have := unhide HLT; simp only; omega)) (.slice (some ⟨g, 0, none⟩) (ts.length + 1) cap)).setCell (p := ⟨w1.heap.size + 1, 5, none⟩) (Or.inr (by have := unhide HLT; simp only; omega)) (.int .i64 (m : Int)))
        generalize (w5.setCell ⟨w1.heap.size + 1, 4, none⟩ (.slice (some ⟨g, 0, none⟩) (ts.length + 1) cap)).setCell ⟨w1.heap.size + 1, 5, none⟩ (.int .i64 (m : Int)) = W6 at HX6 HK6 HKW6 ⊢
        have HB6 := hide ((unhide HK6).heap (unhide HB5) (by intro hm; exact unhide HSS (by simpa using (List.mem_singleton.1 hm).symm)))
        have HZ6 := hide ((unhide HK6).heap (unhide HZ5) (by intro hm; have := List.mem_singleton.1 hm; have := unhide HLT; omega))
        have HP6 := hide ((unhide HP5).pass (unhide HK6) (by have := unhide HS2; simp; omega))
        obtain ⟨g0, g1⟩ := bcells (unhide HB6)
        go_wp2_with fail
        go_roundw
        case rel =>
          refine ⟨m, f', (i + es.length) % 18446744073709551616, .slice (some ⟨g, 0, none⟩) (ts.length + 1) cap, ts ++ [(R, .slice a3 n3 c3, es)], ?_, hide ⟨by have := (unhide HM).2; omega, by have := (unhide HN).2.1; have := (unhide HM).1; omega, by have := (unhide HN).2.2; have := (unhide HM).1; rw [List.length_append]; simp; omega⟩, hide ?_, HX6, HP6, HKW6, HZ6⟩
          · have h9 := unhide HL3
            rw [h9, IntKind.wrap_u64]
            simp
          · rw [unhide HR, unhide HE, unhide HRI]
            simp
        case measure =>
          rw [(scells (unhide HX6)).2.2.2.2.2, unhide HC5]
          have := unhide HM
          simp [intOf]
          omega
      · rw [Bool.not_eq_true] at hrb
        rw [hrb]
        have HE := hide (rdL_no (k := f) hrb)
        have HBS := hide (by
          have h9 := (unhide HO3).own.2
          rcases h9 with ⟨rfl, _⟩ | ⟨g, cap, cur, rfl, _⟩
          · exact ⟨_, _, _, rfl⟩
          · exact ⟨_, _, _, rfl⟩ : ∃ a n c, bv = .slice a n c)
        obtain ⟨ab, nb, cb, rfl⟩ := unhide HBS
        clear hrb
        go_wp2
        rw [unhide HW4]
        refine bodyPost_ret (v := .tuple #[.agg #[.int .u64 (X.a : Int), .int .u64 (X.b : Int), .int .u64 (X.c : Int), .int .i64 (X.d : Int), .slice ab nb cb, .int .i64 (n : Int)], .int .i64 0]) ?_ rfl ⟨.slice ab nb cb, by rw [(unhide HV).1, (unhide HV).2.2, unhide HR, unhide HE]; rfl, ?_, put6_kept ((unhide HK3).trans (unhide KA) (by simp)) w.heap.size (Or.inr (Nat.le_refl _)) _ _ _ _ _ _, ?_⟩
        · exact results_cell_tmp rfl _ _ w.heap.size _ #[.int .u64 (X.a : Int), .int .u64 (X.b : Int), .int .u64 (X.c : Int), .int .i64 (X.d : Int), .slice ab nb cb, .int .i64 (n : Int)] (0, 0) _ rfl (put6_heap (unhide HZ4) _ _ _ _ _ _) Tryz.underlying40 rfl Tryz.size_seg _ rfl
        · rw [(unhide HV).2.1, unhide HR, unhide HE, List.append_nil]
          exact (((unhide HO3).pass (unhide KA) (by simp)).pass (put6_kept (L := [w.heap.size]) (Kept.refl _ W4) w.heap.size (Or.inl (by simp)) _ _ _ _ _ _) (by have := unhide HLT; have := unhide HS2; simp; omega)).rdB
        · intro M w9 k9 hM
          rw [(unhide HV).2.1, unhide HR, unhide HE, List.append_nil]
          exact ((((unhide HO3).pass (unhide KA) (by simp)).pass (put6_kept (L := [w.heap.size]) (Kept.refl _ W4) w.heap.size (Or.inl (by simp)) _ _ _ _ _ _) (by have := unhide HLT; have := unhide HS2; simp; omega)).pass k9 (fun x hx => by have := hM x hx; have := unhide HLT; have := unhide HS2; omega)).rdB
  · rw [Bool.not_eq_true] at hok
    rw [hok]
    simp only [Bool.false_eq_true, if_false]
    have HV := hide (unhide HNO hok)
    go_wp2
    rw [unhide HW1]
    refine bodyPost_ret (v := .tuple #[.agg #[.int .u64 0, .int .u64 0, .int .u64 0, .int .i64 0, .slice none 0 0, .int .i64 0], .int .i64 3]) ?_ rfl ⟨.slice none 0 0, by rw [(unhide HV).1, (unhide HV).2.1, (unhide HV).2.2.2]; rfl, by rw [(unhide HV).2.2.1]; exact RdB.nil _, put6_kept (unhide HKW) w.heap.size (Or.inr (Nat.le_refl _)) _ _ _ _ _ _, fun M w9 _ _ => by rw [(unhide HV).2.2.1]; exact RdB.nil _⟩
    exact results_cell_tmp rfl _ _ w.heap.size _ #[.int .u64 0, .int .u64 0, .int .u64 0, .int .i64 0, .slice none 0 0, .int .i64 0] (0, 0) _ rfl (put6_heap (unhide HZW) _ _ _ _ _ _) Tryz.underlying40 rfl Tryz.size_seg _ rfl
end Go.Proofs.YtckkalmhekfnhabGreatDoor
namespace Go.Proofs.YtckkalmhekfnhabGreatDoor
open Go.RowKit Go.BigFrame
set_option linter.unusedVariables false
set_option linter.unusedSimpArgs false

/-- Entries of bytes. -/
def byN (es : List En) : Prop := ∀ e ∈ es, e.k < 256 ∧ (∀ x ∈ e.key, x < 256) ∧ ∀ x ∈ e.val, x < 256
theorem RdN.byN {w : World} {v : Value} {es : List En} (h : RdN w v es) : byN es := by
  obtain ⟨ao, len, cap, kv, vv, h1, h2, h3, h4, h5, h6⟩ := h
  intro e he
  obtain ⟨i, hi, rfl⟩ := List.mem_iff_getElem.1 he
  exact ⟨(h5 i hi).k, (h5 i hi).key.byte, (h5 i hi).val.byte⟩
theorem enB_byte {e : En} (h9 : e.k < 256 ∧ (∀ x ∈ e.key, x < 256) ∧ ∀ x ∈ e.val, x < 256) : ∀ x ∈ enB e, x < 256 := by
  intro x hx
  unfold enB at hx
  rw [List.mem_cons, List.mem_append, List.mem_append] at hx
  rcases hx with rfl | (hx | hx) | hx
  · exact h9.1
  · exact uv_byte _ x hx
  · exact h9.2.1 x hx
  · split at hx
    · rw [List.mem_append] at hx
      rcases hx with hx | hx
      · exact uv_byte _ x hx
      · exact h9.2.2 x hx
    · simp at hx
theorem entB_byte {es : List En} (h : byN es) : ∀ x ∈ entB es, x < 256 := by
  induction es with
  | nil => simp [entB]
  | cons e r ih =>
    intro x hx
    rw [entB, List.map_cons, List.flatten_cons, List.mem_append] at hx
    rcases hx with hx | hx
    · exact enB_byte (h e (by simp)) x hx
    · exact ih (fun y hy => h y (by simp [hy])) x hx
theorem batB_byte {f : Nat} {es : List En} (h : byN es) : ∀ x ∈ batB f es, x < 256 := by
  intro x hx
  unfold batB at hx
  rw [List.mem_append, List.mem_append] at hx
  rcases hx with hx | hx | hx
  · exact uv_byte _ x hx
  · exact uv_byte _ x hx
  · exact entB_byte h x hx
theorem headB_byte (a b c : Nat) (z : Int) : ∀ x ∈ headB a b c z, x < 256 := by
  intro x hx
  unfold headB at hx
  simp only [List.mem_append, List.mem_cons, List.not_mem_nil, or_false] at hx
  rcases hx with ((((h | h | h | h | h) | h) | h) | h) | h
  · omega
  · omega
  · omega
  · omega
  · omega
  · exact wide_byte _ _ x h
  · exact wide_byte _ _ x h
  · exact wide_byte _ _ x h
  · omega
/-- What a head's payload says. -/
theorem headB_parts (a b c : Nat) (z : Int) : (headB a b c z).take 5 = [78, 84, 82, 89, 49] ∧ ((headB a b c z).drop 5).take 8 = wide a 8 ∧ ((headB a b c z).drop 13).take 8 = wide b 8 ∧ ((headB a b c z).drop 21).take 8 = wide c 8 ∧ (headB a b c z).getD 29 0 = (z % 256).toNat := by
  have ha := wide_len a 8
  have hb := wide_len b 8
  have hc := wide_len c 8
  unfold headB
  generalize wide a 8 = A at *
  generalize wide b 8 = B at *
  generalize wide c 8 = C at *
  match A, ha, B, hb, C, hc with
  | [_, _, _, _, _, _, _, _], _, [_, _, _, _, _, _, _, _], _, [_, _, _, _, _, _, _, _], _ => exact ⟨rfl, rfl, rfl, rfl, rfl⟩
theorem hdF_laid {a b c : Nat} {z : Int} (ha : a < 18446744073709551616) (hb : b < 18446744073709551616) (hc : c < 18446744073709551616) (hz : wideB z = true) (r : List Nat) : hdF (ehB a b c z ++ r) = some ⟨a, b, c, z.toNat⟩ := by
  have hB : ehB a b c z = frB a (headB a b c z) := by simp [ehB, hz]
  have hzz : 1 ≤ z ∧ z ≤ 32 := by simpa [wideB] using hz
  obtain ⟨p1, p2, p3, p4, p5⟩ := headB_parts a b c z
  have hz2 : (z % 256).toNat = z.toNat := by omega
  unfold hdF
  rw [hB, firstF_some a (headB a b c z) r ha (by rw [headB_len]; decide) (by rw [headB_len]; decide) (headB_byte a b c z)]
  have hpay : payH a (headB a b c z) = true := by
    unfold payH
    rw [p1, p2, p5, headB_len, beL_of_wide (by decide) (by omega), hz2]
    simp; omega
  simp only
  rw [if_pos hpay, p2, p3, p4, p5, hz2, beL_of_wide (by decide) (by omega), beL_of_wide (by decide) (by omega), beL_of_wide (by decide) (by omega)]
theorem nextF_at (A : List Nat) (pl : Nat) (pay t : List Nat) (hpl : pl < 18446744073709551616) (h1 : 1 ≤ pay.length) (hl : pay.length ≤ 65535) (hb : ∀ x ∈ pay, x < 256) : nextF (A ++ (frB pl pay ++ t)) (A.length : Nat) = ⟨pl, pay, ((A.length + 18 + pay.length : Nat) : Int), 1⟩ := by
  have h := firstF_some pl pay t hpl h1 hl hb
  have hlen : (A ++ (frB pl pay ++ t)).length = A.length + (pay.length + 18 + t.length) := by rw [List.length_append, List.length_append, frB_len]
  unfold nextF
  rw [if_neg (by rw [hlen]; omega), if_neg (by rw [hlen]; omega), Int.toNat_natCast, List.drop_left, h]
  simp
theorem sbB_len {f : Nat} {es : List En} (hc : chkB f es = 0) : (sbB f es).length = (batB f es).length + 18 := by
  unfold sbB; rw [if_pos hc, frB_len]
/-- A batch that was laid is read. -/
theorem rb_laid (A : List Nat) {f : Nat} {es : List En} (t : List Nat) (hc : chkB f es = 0) (hf : f < 18446744073709551616) (hb : byN es) :
    rbOk (A ++ (sbB f es ++ t)) (A.length : Nat) f = true ∧ rbE (A ++ (sbB f es ++ t)) (A.length : Nat) f = es ∧ rbN (A ++ (sbB f es ++ t)) (A.length : Nat) f = ((A.length + (sbB f es).length : Nat) : Int) := by
  have hl := batB_lenS hc hf
  have hn := nextF_at A f (batB f es) t hf (by omega) (by omega) (batB_byte hb)
  have hs : sbB f es = frB f (batB f es) := by unfold sbB; rw [if_pos hc]
  rw [← hs] at hn
  have hok : rbOk (A ++ (sbB f es ++ t)) (A.length : Nat) f = true := by
    unfold rbOk
    rw [hn, decB_back hc hf]
    simp
  refine ⟨hok, ?_, ?_⟩
  · unfold rbE; rw [if_pos hok, hn, decB_back hc hf]
  · unfold rbN; rw [if_pos hok, hn, sbB_len hc]; simp only; omega
theorem rb_end (A : List Nat) (i : Nat) : rbOk A (A.length : Nat) i = false := by
  unfold rbOk
  have : nextF A (A.length : Nat) = ⟨0, [], (A.length : Nat), 0⟩ := by unfold nextF; rw [if_pos rfl]
  rw [this]; simp
theorem chkB_lt {f : Nat} {es : List En} (h : chkB f es = 0) : f + es.length ≤ 18446744073709551615 := (chkB_zero h).2.2.1
theorem ehB_len {a b c : Nat} {z : Int} (h : wideB z = true) : (ehB a b c z).length = 48 := by unfold ehB; rw [if_pos h, frB_len, headB_len]
/-- A whole segment of one batch. -/
theorem seg_one {a b c : Nat} {z : Int} {es : List En} (ha : a < 18446744073709551616) (hb : b < 18446744073709551616) (hc : c < 18446744073709551616) (hz : wideB z = true) (hk : chkB c es = 0) (hy : byN es) :
    hdF (ehB a b c z ++ sbB c es) = some ⟨a, b, c, z.toNat⟩ ∧ sgB (ehB a b c z ++ sbB c es) = [(c, es)] ∧ sgU (ehB a b c z ++ sbB c es) = 48 + (sbB c es).length ∧ sgE (ehB a b c z ++ sbB c es) = 0 := by
  have h1 := hdF_laid ha hb hc hz (sbB c es)
  have hX : hdC (ehB a b c z ++ sbB c es) = ⟨a, b, c, z.toNat⟩ := by unfold hdC; rw [h1]; rfl
  obtain ⟨r1, r2, r3⟩ := rb_laid (ehB a b c z) [] hk hc hy
  rw [List.append_nil, ehB_len hz] at r1 r2 r3
  have hl : (ehB a b c z ++ sbB c es).length = (sbB c es).length + 47 + 1 := by rw [List.length_append, ehB_len hz]; omega
  have hl2 : ((48 + (sbB c es).length : Nat) : Int).toNat = (ehB a b c z ++ sbB c es).length := by rw [Int.toNat_natCast, hl]; omega
  have hr : rdL (ehB a b c z ++ sbB c es).length (ehB a b c z ++ sbB c es) 48 c = ([(c, es)], 48 + (sbB c es).length) := by
    have e := rdL_yes (k := (sbB c es).length + 47) r1
    rw [r2, r3] at e
    rw [hl, e, hl2, rdL_no (rb_end _ _), hl]
    simp; omega
  refine ⟨h1, ?_, ?_, ?_⟩
  · unfold sgB; rw [h1, hX]; simp only [Option.isSome_some, if_true]; rw [hr]
  · unfold sgU; rw [h1, hX]; simp only [Option.isSome_some, if_true]; rw [hr]
  · unfold sgE; rw [h1]; rfl
end Go.Proofs.YtckkalmhekfnhabGreatDoor
namespace Go.Proofs.YtckkalmhekfnhabGreatDoor
open Go.RowKit Go.BigFrame
set_option linter.unusedVariables false
set_option linter.unusedSimpArgs false

theorem chkB_aw : chkB 5 [⟨1, [107], [118]⟩] = 0 := by decide
theorem sbB_aw : (sbB 5 [⟨1, [107], [118]⟩]).length = 25 := by
  rw [sbB_len chkB_aw]
  unfold batB entB enB
  simp [uv_lt]
theorem byN_aw : byN [⟨1, [107], [118]⟩] := by
  intro e he
  rw [List.mem_singleton] at he
  subst he
  exact ⟨by decide, by decide, by decide⟩
theorem RdB.at0 {w : World} {v : Value} {f : Nat} {es : List En} {r : List (Nat × List En)} (h : RdB w v ((f, es) :: r)) : ∃ b off c y, v = .slice (some ⟨b, off, none⟩) (r.length + 1) c ∧ r.length + 1 ≤ c ∧ w.cell? ⟨b, off, none⟩ = some (.int .u64 (f : Int)) ∧ w.cell? ⟨b, off + 1, none⟩ = some y ∧ RdN w y es := by
  obtain ⟨ao, cap, ts, h1, h2, h3, h4, h5, h6⟩ := h
  have hl : ts.length = r.length + 1 := by have := congrArg List.length h2; simpa using this.symm
  obtain ⟨b, off, rfl, hc⟩ := h6 (by omega)
  have h0 := hc 0 (by omega)
  cases ts with
  | nil => simp at hl
  | cons t r' =>
    simp only [List.map_cons, List.cons.injEq, Prod.mk.injEq] at h2
    refine ⟨b, off, cap, t.2.1, by rw [h1, hl], by omega, ?_, ?_, ?_⟩
    · have := h0.1; simp only [Nat.zero_mul, Nat.add_zero, List.getElem_cons_zero] at this; rw [this, h2.1.1]
    · have := h0.2; simp only [Nat.zero_mul, Nat.add_zero, List.getElem_cons_zero] at this; exact this
    · rw [h2.1.2]; exact h5 t (by simp)

set_option maxRecDepth 100000 in
set_option maxHeartbeats 4000000 in
theorem sawake_any (w : World) : Calls Tryz.prog 6 #[] w fun r w' => r = .returned (.bool true) ∧ Kept [] w w' := by
  go_enter Tryz.func6, Tryz.ntmps6
  go_wp2_with fail
  refine Calls.mono (number7_any _) ?_
  rintro r w1 ⟨rfl, k1⟩
  have HK1 := hide k1
  clear k1
  go_wp2_with fail
  refine Calls.mono (name7_any _) ?_
  rintro r w2 ⟨rfl, hw2⟩
  subst w2
  have heq : (seg7.toList == [115, 101, 103, 45, 48, 48, 48, 48, 48, 48, 48, 48, 48, 48, 48, 48, 48, 48, 48, 48, 48, 48, 48, 55]) = true := by rw [ba_toListS]; decide
  have hc1 := Lib.run_convert_bytes_const (P := Tryz.prog) w1 29 5 #[.int .u8 107] 1 1 Tryz.underlying29 Tryz.underlying5
  have hc2 := Lib.run_convert_bytes_const (P := Tryz.prog) (w1.alloc (.cells #[.int .u8 107] 5 (1, 2))) 29 5 #[.int .u8 118] 1 1 Tryz.underlying29 Tryz.underlying5
  rw [show (w1.alloc (.cells #[.int .u8 107] 5 (1, 2))).heap.size = w1.heap.size + 1 from Array.size_push _] at hc2
  have hc3 : #[Value.int IntKind.u8 107].size = 1 := rfl
  have hc4 : #[Value.int IntKind.u8 118].size = 1 := rfl
  rw [hc3] at hc1
  rw [hc4] at hc2
  clear hc3 hc4
  go_wp2_with fail
  clear hc1 hc2 heq
  have HW0 := hide (heap_alloc3e w1 (.cells #[.int .u8 107] 5 (1, 2)) (.cells #[.int .u8 118] 5 (1, 2)) (.cells #[.int .u8 1, .slice (some ⟨w1.heap.size, 0, none⟩) 1 1, .slice (some ⟨w1.heap.size + 1, 0, none⟩) 1 1] 44))
  have HK0 := hide (((((Kept.refl [] w1).alloc (.cells #[.int .u8 107] 5 (1, 2))).alloc (.cells #[.int .u8 118] 5 (1, 2))).alloc (.cells #[.int .u8 1, .slice (some ⟨w1.heap.size, 0, none⟩) 1 1, .slice (some ⟨w1.heap.size + 1, 0, none⟩) 1 1] 44)))
  have HSZ := hide (by simp : (((w1.alloc (.cells #[.int .u8 107] 5 (1, 2))).alloc (.cells #[.int .u8 118] 5 (1, 2))).alloc (.cells #[.int .u8 1, .slice (some ⟨w1.heap.size, 0, none⟩) 1 1, .slice (some ⟨w1.heap.size + 1, 0, none⟩) 1 1] 44)).heap.size = w1.heap.size + 1 + 1 + 1)
  obtain ⟨W0, hW0⟩ : ∃ W, ((w1.alloc (.cells #[.int .u8 107] 5 (1, 2))).alloc (.cells #[.int .u8 118] 5 (1, 2))).alloc (.cells #[.int .u8 1, .slice (some ⟨w1.heap.size, 0, none⟩) 1 1, .slice (some ⟨w1.heap.size + 1, 0, none⟩) 1 1] 44) = W := ⟨_, rfl⟩
  rw [hW0] at HW0 HK0 HSZ ⊢
  clear hW0
  have HB0 := hide (heap_alloc_new W0 (.cells #[.int .u64 5, .slice (some ⟨w1.heap.size + 1 + 1, 0, none⟩) 1 1] 37))
  rw [unhide HSZ] at HB0
  have HN0 := hide ((RdN.one (e := ⟨1, [107], [118]⟩) (unhide HW0).2.2 ⟨by show (1 : Nat) < 256; omega, rd_row [107] (unhide HW0).1 rfl (by decide) 1 rfl (by decide), rd_row [118] (unhide HW0).2.1 rfl (by decide) 1 rfl (by decide)⟩).old ((Kept.refl [] W0).alloc (.cells #[.int .u64 5, .slice (some ⟨w1.heap.size + 1 + 1, 0, none⟩) 1 1] 37)))
  have HKB := hide (((unhide HK1).trans (unhide HK0) (by simp)).alloc (.cells #[.int .u64 5, .slice (some ⟨w1.heap.size + 1 + 1, 0, none⟩) 1 1] 37))
  obtain ⟨W1, hW1⟩ : ∃ W, W0.alloc (.cells #[.int .u64 5, .slice (some ⟨w1.heap.size + 1 + 1, 0, none⟩) 1 1] 37) = W := ⟨_, rfl⟩
  rw [hW1] at HB0 HN0 HKB ⊢
  clear hW1 HW0 HK0 HSZ HK1
  refine Calls.mono (encodeHead_any 3 2 5 4 W1 (by decide) (by decide)) ?_
  rintro r w2 ⟨v2, rfl, n2, k2⟩
  rw [show ehE 4 = 0 by decide]
  have HR2 := hide n2.1
  have hl2 := ehB_len (a := 3) (b := 2) (c := 5) (z := 4) (by decide)
  obtain ⟨a2, m2, c2, hu2, hm2, _⟩ := id n2.1
  subst hu2
  rw [hl2] at hm2
  subst hm2
  have HB2 := hide (k2.heap (unhide HB0) (by simp))
  have HN2 := hide ((unhide HN0).old k2)
  have HK2 := hide ((unhide HKB).trans k2 (by simp))
  clear n2 k2 hl2 HB0 HN0 HKB
  obtain ⟨d0, d1⟩ := bcells (unhide HB2)
  go_wp2_with fail
  refine Calls.mono (segBatch_any 5 _ [⟨1, [107], [118]⟩] w2 (by decide) (unhide HN2)) ?_
  rintro r w3 ⟨v3, rfl, n3, k3⟩
  rw [chkB_aw]
  have HR3 := hide n3.1
  obtain ⟨a3, m3, c3, hu3, hm3, _⟩ := id n3.1
  subst hu3
  rw [sbB_aw] at hm3
  subst hm3
  have HR23 := hide ((unhide HR2).old k3 (by simp))
  have HB3 := hide (k3.heap (unhide HB2) (by simp))
  have HN3 := hide ((unhide HN2).old k3)
  have HK3 := hide ((unhide HK2).trans k3 (by simp))
  clear n3 k3 d0 d1 HB2 HN2 HK2 HR2
  go_wp2_with fail
  refine Calls.mono (join_any _ _ _ _ w3 (unhide HR23) (unhide HR3) (by rw [ehB_len (by decide), sbB_aw]; decide)) ?_
  rintro r w4 ⟨v4, rfl, r4, k4, _⟩
  have HR4 := hide r4
  have HB4 := hide (k4.heap (unhide HB3) (by simp))
  have HN4 := hide ((unhide HN3).old k4)
  have HK4 := hide ((unhide HK3).trans k4 (by simp))
  clear r4 k4 HB3 HN3 HK3
  go_wp2_with fail
  obtain ⟨s1, s2, s3, s4⟩ := seg_one (a := 3) (b := 2) (c := 5) (z := 4) (es := [⟨1, [107], [118]⟩]) (by decide) (by decide) (by decide) (by decide) chkB_aw byN_aw
  have s5 : hdC (ehB 3 2 5 4 ++ sbB 5 [⟨1, [107], [118]⟩]) = ⟨3, 2, 5, 4⟩ := by unfold hdC; rw [s1]; rfl
  rw [sbB_aw] at s3
  refine Calls.mono (read_any _ _ w4 (unhide HR4) (by rw [List.length_append, ehB_len (by decide), sbB_aw]; decide)) ?_
  rintro r w5 ⟨v5, rfl, r5, k5, _⟩
  rw [s2] at r5
  rw [s3, s4, s5]
  clear s1 s2 s3 s4 s5
  obtain ⟨b5, o5, c5, y5, rfl, hc5, e0, e1, hy⟩ := r5.at0
  obtain ⟨ay, ny, cy, _, _, hyy, _⟩ := id hy
  subst hyy
  have HY := hide hy
  have HB5 := hide (k5.heap (unhide HB4) (by simp))
  have HN5 := hide ((unhide HN4).old k5)
  have HK5 := hide ((unhide HK4).trans k5 (by simp))
  have HE := hide (And.intro e0 e1)
  clear r5 k5 hy e0 e1 HB4 HN4 HK4
  simp only [List.length_nil, Nat.zero_add, Nat.reduceAdd, Int.cast_ofNat_Int]
  have HS6 := hide (heap_alloc_new w5 (.cells #[.int .u64 3, .int .u64 2, .int .u64 5, .int .i64 4, .slice (some ⟨b5, o5, none⟩) 1 c5, .int .i64 73] 40))
  have k6 := (Kept.refl [] w5).alloc (.cells #[.int .u64 3, .int .u64 2, .int .u64 5, .int .i64 4, .slice (some ⟨b5, o5, none⟩) 1 c5, .int .i64 73] 40)
  have HB6 := hide (k6.heap (unhide HB5) (by simp))
  have HN6 := hide ((unhide HN5).old k6)
  have HY6 := hide ((unhide HY).old k6)
  have HK6 := hide ((unhide HK5).trans k6 (by simp))
  have HE6 := hide (And.intro (k6.cell (unhide HE).1 (by simp)) (k6.cell (unhide HE).2 (by simp)))
  clear k6 HB5 HN5 HY HK5 HE
  obtain ⟨x0, x1, x2, x3, x4, x5⟩ := scells (unhide HS6)
  go_upto_region 12 with fail
  obtain ⟨W6, hW6⟩ : ∃ W, w5.alloc (.cells #[.int .u64 3, .int .u64 2, .int .u64 5, .int .i64 4, .slice (some ⟨b5, o5, none⟩) 1 c5, .int .i64 73] 40) = W := ⟨_, rfl⟩
  rw [hW6] at HS6 HB6 HN6 HY6 HK6 HE6 x0 x1 x2 x3 x4 x5 ⊢
  clear hW6
  have HRG := hide (fun j u hj => by
    match j with
    | 0 => simp only [List.getElem?_cons_zero, Option.some.injEq] at hj; subst hj; exact (unhide HE6).1
    | 1 => simp only [List.getElem?_cons_succ, List.getElem?_cons_zero, Option.some.injEq] at hj; subst hj; exact (unhide HE6).2
    | j + 2 => simp at hj : W6.rangeAt b5 o5 [.int .u64 5, .slice ay ny cy])
  refine wp_quiet_tail 5 (by kernel_rfl) (by kernel_rfl) ?_
  simp only [List.take_succ_cons, List.take_zero, List.drop_succ_cons, List.drop_zero]
  repeat (go_big_quiet_step (fail))
  refine wpQuiet_mid rfl 37 _ rfl b5 o5 rfl [.int .u64 5, .slice ay ny cy] _ (fun w' hw' => by obtain ⟨n, rfl⟩ := hw'; exact unhide HRG) Tryz.underlying37 rfl Tryz.size_batch9 ?_
  simp only [Act.put, List.setIfInBounds_toArray, List.set_cons_succ, List.set_cons_zero]
  refine wpQuiet_load_row rfl 37 _ rfl (w1.heap.size + 1 + 1 + 1) rfl 37 #[.int .u64 5, .slice (some ⟨w1.heap.size + 1 + 1, 0, none⟩) 1 1] (0, 0) _ (fun w' hw' => by obtain ⟨n, rfl⟩ := hw'; exact unhide HB6) Tryz.underlying37 rfl Tryz.size_batch9 ?_
  simp only [Act.put, List.setIfInBounds_toArray, List.set_cons_succ, List.set_cons_zero]
  refine wpQuiet_nil ?_
  rintro _ ⟨n6, rfl⟩
  clear x0 x1 x2 x3 x4 x5
  go_wp2_with fail
  refine Calls.mono (sameBatch_any 5 5 _ _ [⟨1, [107], [118]⟩] [⟨1, [107], [118]⟩] _ ((unhide HY6).old ((Kept.refl [] W6).drewN n6)) ((unhide HN6).old ((Kept.refl [] W6).drewN n6))) ?_
  rintro r w7 ⟨rfl, k7⟩
  have HK7 := hide (((unhide HK6).drewN n6).trans k7 (by simp))
  clear k7
  rw [show (decide ((5 : Nat) = 5) && decide ([(⟨1, [107], [118]⟩ : En)] = [⟨1, [107], [118]⟩])) = true by decide]
  go_wp2
  go_ret
  exact ⟨rfl, unhide HK7⟩
end Go.Proofs.YtckkalmhekfnhabGreatDoor
