import Derived.Test.YtclgblilgpfllabNDoc
namespace Go.Proofs.Ytclgblilgpfllab
open Go.RowKit Go.BigFrame
set_option linter.unusedVariables false
set_option linter.unusedSimpArgs false

theorem comL_spec (a b : List Nat) : ∀ (n i : Nat), i ≤ comL a b n i ∧ comL a b n i ≤ i + n ∧ (∀ j, i ≤ j → j < comL a b n i → dgt a j = dgt b j) ∧ (comL a b n i < i + n → dgt a (comL a b n i) ≠ dgt b (comL a b n i))
  | 0, i => by unfold comL; exact ⟨Nat.le_refl _, Nat.le_refl _, fun j h1 h2 => by omega, fun h => by omega⟩
  | n + 1, i => by
    unfold comL
    by_cases h : dgt a i = dgt b i
    · rw [if_pos h]
      obtain ⟨h1, h2, h3, h4⟩ := comL_spec a b n (i + 1)
      refine ⟨by omega, by omega, fun j g1 g2 => ?_, fun g => h4 (by omega)⟩
      rcases Nat.lt_or_ge i j with q | q
      · exact h3 j (by omega) g2
      · rw [show j = i by omega]; exact h
    · rw [if_neg h]
      exact ⟨Nat.le_refl _, by omega, fun j g1 g2 => by omega, fun _ => h⟩
theorem ordL_self : ∀ a : List Nat, ordL a a = 0
  | [] => rfl
  | x :: a => by unfold ordL; rw [if_neg (Nat.lt_irrefl x), if_neg (Nat.lt_irrefl x)]; exact ordL_self a
theorem ordL_at : ∀ (a b : List Nat) (j : Nat), a.length = b.length → j < a.length → (∀ i, i < j → a.getD i 0 = b.getD i 0) → a.getD j 0 ≠ b.getD j 0 → ordL a b = if a.getD j 0 < b.getD j 0 then -1 else 1
  | [], b, j, _, h, _, _ => by simp at h
  | x :: a, [], j, h, _, _, _ => by simp at h
  | x :: a, y :: b, 0, _, _, _, h => by
    simp only [List.getD_cons_zero] at h ⊢
    unfold ordL
    by_cases g : x < y
    · rw [if_pos g, if_pos g]
    · rw [if_neg g, if_pos (by omega), if_neg g]
  | x :: a, y :: b, j + 1, hl, hj, hp, h => by
    have h0 := hp 0 (by omega)
    simp only [List.getD_cons_zero] at h0
    subst h0
    unfold ordL
    rw [if_neg (Nat.lt_irrefl x), if_neg (Nat.lt_irrefl x)]
    simp only [List.getD_cons_succ] at h ⊢
    exact ordL_at a b j (by simpa using hl) (by simpa using hj) (fun i hi => by have := hp (i + 1) (by omega); simpa using this) h
theorem byte_dgt (d : List Nat) (j : Nat) : d.getD j 0 = 16 * dgt d (2 * j) + dgt d (2 * j + 1) := by
  unfold dgt
  rw [if_pos (by omega), if_neg (by omega), show 2 * j / 2 = j by omega, show (2 * j + 1) / 2 = j by omega]
  omega
theorem ord_dgt {a b : List Nat} (ha : Dg a) (hb : Dg b) {c : Nat} (hc : c < 64) (hp : ∀ i, i < c → dgt a i = dgt b i) (h : dgt a c ≠ dgt b c) : ordL a b = if dgt a c < dgt b c then -1 else 1 := by
  have hpre : ∀ i, i < c / 2 → a.getD i 0 = b.getD i 0 := fun i hi => by
    rw [byte_dgt a i, byte_dgt b i, hp (2 * i) (by omega), hp (2 * i + 1) (by omega)]
  have ea := byte_dgt a (c / 2)
  have eb := byte_dgt b (c / 2)
  have la := dgt_lt ha.2 (2 * (c / 2) + 1)
  have lb := dgt_lt hb.2 (2 * (c / 2) + 1)
  have hne : a.getD (c / 2) 0 ≠ b.getD (c / 2) 0 ∧ ((a.getD (c / 2) 0 < b.getD (c / 2) 0) ↔ dgt a c < dgt b c) := by
    rcases (by omega : c = 2 * (c / 2) ∨ c = 2 * (c / 2) + 1) with e | e
    · rw [← e] at ea eb la lb
      rw [ea, eb]
      omega
    · have h1 := hp (2 * (c / 2)) (by omega)
      rw [← e] at ea eb la lb
      rw [ea, eb]
      omega
  rw [ordL_at a b (c / 2) (by rw [ha.1, hb.1]) (by rw [ha.1]; omega) hpre hne.1]
  by_cases g : dgt a c < dgt b c
  · rw [if_pos g, if_pos (hne.2.2 g)]
  · rw [if_neg g, if_neg (fun q => g (hne.2.1 q))]
theorem form_eq {k : Nat} {a b : List Nat} (ha : Dg a) (hb : Dg b) (h1 : 1 ≤ k) (hk : k ≤ 32) (fa : formB (k : Int) a = true) (fb : formB (k : Int) b = true) (hp : ∀ i, i < 2 * k → dgt a i = dgt b i) : a = b := by
  refine list_ext_getD (by rw [ha.1, hb.1]) fun j hj => ?_
  rw [ha.1] at hj
  rcases Nat.lt_or_ge j k with g | g
  · rw [byte_dgt a j, byte_dgt b j, hp (2 * j) (by omega), hp (2 * j + 1) (by omega)]
  · rw [(formB_iff ha.1 h1 hk).1 fa j g hj, (formB_iff hb.1 h1 hk).1 fb j g hj]
theorem formed_two {z : Int} {a b : List Nat} (h : formedE z [a, b] = 0) : formB z a = true ∧ formB z b = true := by
  unfold formedE at h
  split at h
  · omega
  · split at h
    · rename_i g; simpa using g
    · omega
/-- Common and Order, together. -/
theorem com_ord {k : Nat} {a b : List Nat} (ha : Dg a) (hb : Dg b) (h1 : 1 ≤ k) (hk : k ≤ 32) (hf : formedE (k : Int) [a, b] = 0) :
    (comL a b (2 * k) 0 = 2 * k ∧ a = b ∧ ordL a b = 0) ∨ (comL a b (2 * k) 0 < 2 * k ∧ a ≠ b ∧ dgt a (comL a b (2 * k) 0) ≠ dgt b (comL a b (2 * k) 0) ∧ ordL a b = if dgt a (comL a b (2 * k) 0) < dgt b (comL a b (2 * k) 0) then -1 else 1) := by
  obtain ⟨_, h2, h3, h4⟩ := comL_spec a b (2 * k) 0
  obtain ⟨fa, fb⟩ := formed_two hf
  rcases Nat.lt_or_ge (comL a b (2 * k) 0) (2 * k) with g | g
  · right
    have hn := h4 (by omega)
    exact ⟨g, fun e => hn (by rw [e]), hn, ord_dgt ha hb (by omega) (fun i hi => h3 i (by omega) hi) hn⟩
  · left
    have e := form_eq ha hb h1 hk fa fb (fun i hi => h3 i (by omega) (by omega))
    exact ⟨by omega, e, by rw [e]; exact ordL_self b⟩
end Go.Proofs.Ytclgblilgpfllab
