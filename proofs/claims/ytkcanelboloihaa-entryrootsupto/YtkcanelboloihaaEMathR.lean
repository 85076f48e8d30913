import Derived.Test.YtkcanelboloihaaEDRoot
import Derived.Test.YtkcanelboloihaaEMath
namespace Go.Proofs.Ytkcanelboloihaa
open Go.RowKit
set_option linter.unusedVariables false
set_option linter.unusedSimpArgs false

theorem pad32_len {q : List Nat} (h : q.length ≤ 32) : (pad32 q).length = 32 := by simp [pad32]; omega
theorem pad32_byte {q : List Nat} (h : ∀ x ∈ q, x < 256) : ∀ x ∈ pad32 q, x < 256 := by
  intro x hx
  rcases List.mem_append.1 hx with h1 | h1
  · exact h x h1
  · rw [(List.mem_replicate.1 h1).2]; decide
theorem pad32_take {q : List Nat} {k : Nat} (h : q.length = k) : (pad32 q).take k = q := by
  subst h; exact List.take_left
theorem pad32_cut {q : List Nat} {k : Nat} (h : q.length = k) : cutL k (pad32 q) = pad32 q := by
  unfold cutL
  rw [pad32_take h]
  unfold pad32
  rw [h]
theorem z32_byte : ∀ x ∈ z32, x < 256 := by
  intro x hx; unfold z32 at hx; rw [(List.mem_replicate.1 hx).2]; decide
theorem decR_ok (z : Int) (p : List Nat) (hb : ∀ x ∈ p, x < 256) : (decR z p).1 < 18446744073709551616 ∧ (decR z p).2.1.length = 32 ∧ (decR z p).2.2.1.length = 32 ∧ (∀ x ∈ (decR z p).2.1, x < 256) ∧ ∀ x ∈ (decR z p).2.2.1, x < 256 := by
  unfold decR
  split
  · exact ⟨by decide, z32_len, z32_len, z32_byte, z32_byte⟩
  split
  · exact ⟨by decide, z32_len, z32_len, z32_byte, z32_byte⟩
  · rename_i h1 h2
    have hw : 1 ≤ z ∧ z ≤ 32 := by simpa [widthB] using h1
    refine ⟨beL_lt _, pad32_len ?_, pad32_len ?_, pad32_byte ?_, pad32_byte ?_⟩
    · rw [List.length_take]; omega
    · rw [List.length_take]; omega
    · exact fun x hx => hb x (List.mem_of_mem_drop (List.mem_of_mem_take hx))
    · exact fun x hx => hb x (List.mem_of_mem_drop (List.mem_of_mem_take hx))
theorem decR_one {z : Int} {p : List Nat} (hb : ∀ x ∈ p, x < 256) (h : (decR z p).2.2.2 = 0) : rootE z (decR z p).2.1 (decR z p).2.2.1 = 0 ∧ rootW z.toNat (decR z p).1 (decR z p).2.1 (decR z p).2.2.1 = p := by
  unfold decR at h ⊢
  split at h
  · simp at h
  rename_i h1
  split at h
  · simp at h
  rename_i h2
  rw [if_neg h1, if_neg h2]
  have hw : 1 ≤ z ∧ z ≤ 32 := by simpa [widthB] using h1
  obtain ⟨k, rfl⟩ : ∃ k : Nat, z = k := ⟨z.toNat, by omega⟩
  have hl : p.length = 8 + 2 * k := by omega
  simp only [Int.toNat_natCast]
  have l1 : ((p.drop 8).take k).length = k := by rw [List.length_take, List.length_drop]; omega
  have l2 : ((p.drop (8 + k)).take k).length = k := by rw [List.length_take, List.length_drop]; omega
  have hwT : widthB k = true := by simpa using h1
  have f1 : formB k (pad32 ((p.drop 8).take k)) = true := by unfold formB; rw [hwT, Int.toNat_natCast, pad32_cut l1]; simp
  have f2 : formB k (pad32 ((p.drop (8 + k)).take k)) = true := by unfold formB; rw [hwT, Int.toNat_natCast, pad32_cut l2]; simp
  refine ⟨?_, ?_⟩
  · unfold rootE
    rw [hwT, f1, f2]; simp
  · unfold rootW
    rw [pad32_take l1, pad32_take l2]
    have hw8 := (wide_beL (r := p.take 8) (fun x hx => hb x (List.mem_of_mem_take hx)) (by rw [List.length_take]; omega)).1
    rw [List.length_take, Nat.min_eq_left (by omega)] at hw8
    rw [hw8]
    have e1 : (p.drop 8).take k ++ (p.drop (8 + k)).take k = p.drop 8 := by
      rw [← List.drop_drop, List.take_of_length_le (l := (p.drop 8).drop k) (by rw [List.length_drop, List.length_drop]; omega), List.take_append_drop]
    rw [e1, List.take_append_drop]
end Go.Proofs.Ytkcanelboloihaa
