import Derived.Test.YtjbmafjnbncbpaaFAw
namespace Go.Proofs.Ytjbmafjnbncbpaa
open Go.RowKit Go.BigFrame
set_option linter.unusedVariables false
set_option linter.unusedSimpArgs false

theorem nextF_cases (p : List Nat) (z : Int) (hb : ∀ x ∈ p, x < 256) :
    (z = p.length ∧ nextF p z = ⟨0, [], z, 0⟩) ∨ (z ≠ p.length ∧ nextF p z = ⟨0, [], z, 2⟩) ∨
    ∃ (n pl : Nat) (pay : List Nat), z = n ∧ nextF p z = ⟨pl, pay, ((n + 18 + pay.length : Nat) : Int), 1⟩ ∧ pl < 18446744073709551616 ∧ 1 ≤ pay.length ∧ pay.length ≤ 65535 ∧ (∀ x ∈ pay, x < 256) ∧ n + 18 + pay.length ≤ p.length ∧ (p.drop n).take (18 + pay.length) = frB pl pay ∧ firstF (p.drop n) = some (pl, pay) := by
  by_cases h1 : z = p.length
  · exact Or.inl ⟨h1, by unfold nextF; rw [if_pos h1]⟩
  refine Or.inr ?_
  by_cases h2 : z < 0 ∨ (p.length : Int) < z
  · exact Or.inl ⟨h1, by unfold nextF; rw [if_neg h1, if_pos h2]⟩
  obtain ⟨n, rfl⟩ : ∃ n : Nat, z = n := ⟨z.toNat, by omega⟩
  have hN : nextF p n = match firstF (p.drop n) with
    | none => ⟨0, [], n, 2⟩
    | some x => ⟨x.1, x.2, (n : Int) + 18 + x.2.length, 1⟩ := by
    unfold nextF; rw [if_neg h1, if_neg h2, Int.toNat_natCast]; cases firstF (p.drop n) <;> rfl
  cases hf : firstF (p.drop n) with
  | none => exact Or.inl ⟨h1, by rw [hN, hf]⟩
  | some x =>
    obtain ⟨pl, pay⟩ := x
    have hfm := firstF_form hf (fun x hx => hb x (List.mem_of_mem_drop hx))
    have hlen : n + 18 + pay.length ≤ p.length := by
      have := congrArg List.length hfm.2.2.2.2
      rw [List.length_append, frB_len, List.length_drop] at this
      omega
    refine Or.inr ⟨n, pl, pay, rfl, ?_, hfm.1, hfm.2.1, hfm.2.2.1, hfm.2.2.2.1, hlen, ?_, hf⟩
    · rw [hN, hf]; simp
    · conv => lhs; rw [hfm.2.2.2.2]
      rw [List.take_append_of_le_length (by rw [frB_len]; omega), List.take_of_length_le (by rw [frB_len]; omega)]

theorem Rd.cutN {w : World} {b off cap : Nat} {p : List Nat} (h : Rd w (.slice (some ⟨b, off, none⟩) p.length cap) p) (n N : Nat) (hn : n ≤ N) (hN : N ≤ p.length) : Rd w (.slice (some ⟨b, off + n, none⟩) (N - n) (cap - n)) ((p.drop n).take (N - n)) := by
  obtain ⟨ao', len', cap', he, _, h2, ⟨h3, h3'⟩, h4, h5, h6⟩ := h
  cases he
  refine ⟨_, _, _, rfl, by rw [List.length_take, List.length_drop]; omega, by omega, ⟨by omega, by omega⟩, fun h => by simp at h, fun x hx => h5 x (List.mem_of_mem_drop (List.mem_of_mem_take hx)), fun hp => ?_⟩
  obtain ⟨b', off', e, hc⟩ := h6 (by omega)
  cases e
  refine ⟨b, off + n, rfl, fun i hi => ?_⟩
  have := hc (n + i) (by omega)
  rw [Nat.add_assoc, this, List.getD_eq_getElem?_getD, List.getD_eq_getElem?_getD, List.getElem?_take, if_pos hi, List.getElem?_drop]
theorem encE_good {p : List Nat} (h1 : 1 ≤ p.length) (h2 : p.length ≤ 65535) : encE p = 0 := by unfold encE; rw [if_neg (by omega), if_neg (by omega)]
theorem encB_good {pl : Nat} {p : List Nat} (h1 : 1 ≤ p.length) (h2 : p.length ≤ 65535) : encB pl p = frB pl p := by unfold encB; rw [encE_good h1 h2]; rfl
end Go.Proofs.Ytjbmafjnbncbpaa
