import Derived.Test.YtclgblilgpfllaaNOrd2
namespace Go.Proofs.Ytclgblilgpfllaa

theorem comL_comm (a b : List Nat) : ∀ n i, comL a b n i = comL b a n i
  | 0, i => rfl
  | n + 1, i => by
    unfold comL
    by_cases h : dgt a i = dgt b i
    · rw [if_pos h, if_pos h.symm, comL_comm a b n]
    · rw [if_neg h, if_neg (fun e => h e.symm)]
theorem com_ge {a b : List Nat} {n m : Nat} (hm : m ≤ n) (h : ∀ j, j < m → dgt a j = dgt b j) : m ≤ comL a b n 0 := by
  obtain ⟨_, _, _, h4⟩ := comL_spec a b n 0
  rcases Nat.lt_or_ge (comL a b n 0) m with g | g
  · exact absurd (h _ g) (h4 (by omega))
  · exact g
theorem com_eqs (a b : List Nat) (n : Nat) {j : Nat} (h : j < comL a b n 0) : dgt a j = dgt b j := (comL_spec a b n 0).2.2.1 j (by omega) h
theorem com_le (a b : List Nat) (n : Nat) : comL a b n 0 ≤ n := by have := (comL_spec a b n 0).2.1; omega
theorem com_ne (a b : List Nat) (n : Nat) (h : comL a b n 0 < n) : dgt a (comL a b n 0) ≠ dgt b (comL a b n 0) := (comL_spec a b n 0).2.2.2 (by omega)
theorem ultra (a b c : List Nat) (n : Nat) : min (comL a b n 0) (comL b c n 0) ≤ comL a c n 0 :=
  com_ge (by have := com_le a b n; omega) (fun j hj => (com_eqs a b n (by omega)).trans (com_eqs b c n (by omega)))
theorem ordL_trans : ∀ a b c : List Nat, a.length = b.length → b.length = c.length → ordL a b ≤ 0 → ordL b c ≤ 0 → ordL a c ≤ 0
  | [], [], [], _, _, _, _ => by decide
  | [], [], _ :: _, _, h, _, _ => by simp at h
  | [], _ :: _, _, h, _, _, _ => by simp at h
  | _ :: _, [], _, h, _, _, _ => by simp at h
  | _ :: _, _ :: _, [], _, h, _, _ => by simp at h
  | x :: a, y :: b, z :: c, h1, h2, p, q => by
    unfold ordL at p q ⊢
    by_cases g1 : x < y
    · by_cases g2 : y < z
      · rw [if_pos (by omega)]; decide
      · rw [if_neg g2] at q
        by_cases g3 : z < y
        · rw [if_pos g3] at q; omega
        · rw [if_pos (by omega)]; decide
    · rw [if_neg g1] at p
      by_cases g4 : y < x
      · rw [if_pos g4] at p; omega
      · rw [if_neg g4] at p
        obtain rfl : x = y := by omega
        by_cases g2 : x < z
        · rw [if_pos g2]; decide
        · rw [if_neg g2] at q ⊢
          by_cases g3 : z < x
          · rw [if_pos g3] at q; omega
          · rw [if_neg g3] at q ⊢
            exact ordL_trans a b c (by simpa using h1) (by simpa using h2) p q
theorem between {a b c : List Nat} (ha : Dg a) (hb : Dg b) (hc : Dg c) {n : Nat} (hn : n ≤ 64) (p : ordL a b ≤ 0) (q : ordL b c ≤ 0) : comL a c n 0 ≤ comL a b n 0 := by
  rcases Nat.lt_or_ge (comL a b n 0) (comL a c n 0) with g | g
  · exfalso
    have hz := com_le a c n
    have hd := com_ne a b n (by omega)
    have hac := com_eqs a c n g
    obtain ⟨x, hx⟩ : ∃ x, comL a b n 0 = x := ⟨_, rfl⟩
    have hpre : ∀ j, j < x → dgt a j = dgt b j := fun j hj => com_eqs a b n (by omega)
    rw [hx] at hd hac g
    have h1 := ord_dgt ha hb (c := x) (by omega) hpre hd
    have hlt : dgt a x < dgt b x := by
      rcases Nat.lt_or_ge (dgt a x) (dgt b x) with h | h
      · exact h
      · rw [h1, if_neg (by omega)] at p; omega
    have h2 := ord_dgt hb hc (c := x) (by omega) (fun j hj => (hpre j hj).symm.trans (com_eqs a c n (by omega))) (by omega)
    rw [h2, if_neg (by omega)] at q
    omega
  · exact g
theorem between' {a b c : List Nat} (ha : Dg a) (hb : Dg b) (hc : Dg c) {n : Nat} (hn : n ≤ 64) (p : ordL a b ≤ 0) (q : ordL b c ≤ 0) : comL a c n 0 ≤ comL b c n 0 := by
  have h1 := between ha hb hc hn p q
  have h2 := ultra b a c n
  rw [comL_comm b a] at h2
  omega
end Go.Proofs.Ytclgblilgpfllaa
