/-
  A region that draws its order, with loads that must come ahead of SOME of its stores only ('a, b = b, a' of whole rows): what holds of the world hangs on what has been carried out. No program.
-/
import Derived.Deep.RegionHeld3
namespace Go.Proofs.YtejchncdimcdbaaGreatDoor
open Go
set_option linter.unusedVariables false
set_option linter.unusedSimpArgs false
section
variable {P : Program} {ops : Array Oper} {Q : Exit → Act → World → Prop} {md : Region.Mode} {S : Array Bool → World → Prop}

/-- Whatever comes up, S holds of what has come up and of the world behind it. -/
def AnyL (P : Program) (md : Region.Mode) (ops : Array Oper) (Q : Exit → Act → World → Prop) (S : Array Bool → World → Prop) : Nat → Array Bool → Act → World → Prop
  | 0, d, a, w => Region.ready md ops d = [] ∧ Q .normal a w
  | g + 1, d, a, w => (Region.ready md ops d = [] → Q .normal a w) ∧ ∀ i ∈ Region.ready md ops d, wpOp P ops Q i (fun a' w' => S (d.setIfInBounds i true) w' ∧ AnyL P md ops Q S g (d.setIfInBounds i true) a' w') a w
theorem AnyL.any : ∀ (g : Nat) (d : Array Bool) (a : Act) (w : World), AnyL P md ops Q S g d a w → wpAny P md ops Q g d a w
  | 0, _, _, _, h => h
  | g + 1, _, _, _, h => ⟨h.1, fun i hi => wpOp_mono (fun a' w' h' => AnyL.any g _ a' w' h'.2) (h.2 i hi)⟩
/-- Number i may be taken first, if it yields its value in every world that meets T, S says T as long as number t has not come up, and t waits for i. -/
theorem AnyL.first {i t : Nat} {oi ot : Oper} {v : Value} {T : World → Prop} (hi : ops[i]? = some oi) (ht : ops[t]? = some ot) (hit : t ≠ i) (hb : ∃ e ∈ ot.after, Region.binds md e = true ∧ e.on = i)
    (hsel : ∀ (j : Nat) (o : Oper) cs b, ops[j]? = some o → o.op ≠ .select cs b) (hQ : ∀ c a w, Q (.panic c) (a.put oi.dst v) w → Q (.panic c) a w)
    (hST : ∀ d w, S d w → d.getD t true = false → T w) (hSi : ∀ d w, S (d.setIfInBounds i true) w ↔ S d w) :
    ∀ (g : Nat) (d : Array Bool) (a : Act) (w : World),
      (∀ j oj, ops[j]? = some oj → j ≠ i → d.getD j true = false → (∀ e ∈ oj.after, Region.binds md e = true → e.on ≠ i) → oi.apart ops oj = true) →
      i ∈ Region.ready md ops d → YieldsIf P ops T oi v a → d.getD t true = false → S d w →
      AnyL P md ops Q S g (d.setIfInBounds i true) (a.put oi.dst v) w → AnyL P md ops Q S (g + 1) d a w := by
  intro g
  induction g with
  | zero =>
    intro d a w _ hr hy hdt hS H
    refine ⟨fun h => (by rw [h] at hr; cases hr), fun j hj => ?_⟩
    by_cases hji : j = i
    · subst hji; exact hy.wpOp hi (hST d w hS hdt) ⟨(hSi d w).2 hS, H⟩
    · have := ready_mono hj hji
      rw [H.1] at this
      cases this
  | succ g ih =>
    intro d a w hfree hr hy hdt hS H
    refine ⟨fun h => (by rw [h] at hr; cases hr), fun j hj => ?_⟩
    by_cases hji : j = i
    · subst hji; exact hy.wpOp hi (hST d w hS hdt) ⟨(hSi d w).2 hS, H⟩
    · have h1 := H.2 j (ready_mono hj hji)
      obtain ⟨hjun, oj, hoj, hall⟩ := mem_ready.1 hj
      have hnot : ∀ e ∈ oj.after, Region.binds md e = true → e.on ≠ i := fun e he hb heq => by
        have h1 := hall e he hb
        have h0 := (mem_ready.1 hr).1
        rw [heq] at h1
        rcases Nat.lt_or_ge i d.size with h' | h'
        · simp [h'] at h0 h1; rw [h0] at h1; cases h1
        · simp [Array.getElem?_eq_none h'] at h1
      have hjt : j ≠ t := fun e9 => by
        subst e9
        rw [ht] at hoj
        injection hoj with hoj
        obtain ⟨e, he, hb1, hb2⟩ := hb
        exact hnot e (by rw [← hoj]; exact he) hb1 hb2
      have h2 := wpOp_putIf hoj (hfree j oj hoj hji hjun hnot) (fun cs b => hsel i oi cs b hi) (fun cs b => hsel j oj cs b hoj) hQ hy h1
      refine wpOp_mono (fun a' w' h3 => ?_) h2
      have hc := Array.setIfInBounds_comm (xs := d) true true hji
      have hS' : S (d.setIfInBounds j true) w' := (hSi _ w').1 (by rw [hc]; exact h3.2.1)
      refine ⟨hS', ih (d.setIfInBounds j true) a' w' (fun k ok hk hki hun hno => ?_) (ready_mono hr (Ne.symm hji)) h3.1 ?_ hS' ?_⟩
      · refine hfree k ok hk hki ?_ hno
        by_cases hjk : j = k
        · subst hjk; exact hjun
        · rw [getD_set_ne true hjk] at hun; exact hun
      · rw [getD_set_ne true hjt]; exact hdt
      · rw [hc]; exact h3.2.2
theorem AnyL.take {i t : Nat} {oi ot : Oper} {v : Value} {T : World → Prop} {g : Nat} {d : Array Bool} {a : Act} {w : World} (hi : ops[i]? = some oi) (ht : ops[t]? = some ot) (hit : t ≠ i) (hs : Region.noSelect ops = true) (hf : Region.free md ops d i = true)
    (hr : (Region.ready md ops d).contains i = true) (hb : ot.after.any (fun e => Region.binds md e && e.on == i) = true) (hQ : ∀ c a w, Q (.panic c) (a.put oi.dst v) w → Q (.panic c) a w)
    (hST : ∀ d w, S d w → d.getD t true = false → T w) (hSi : ∀ d w, S (d.setIfInBounds i true) w ↔ S d w) (hy : YieldsIf P ops T oi v a) (hd : d.getD t true = false) (hS : S d w)
    (h : AnyL P md ops Q S g (d.setIfInBounds i true) (a.put oi.dst v) w) : AnyL P md ops Q S (g + 1) d a w := by
  refine AnyL.first hi ht hit ?_ (Region.noSelect_spec hs) hQ hST hSi g d a w (Region.free_spec hi hf) (by simpa using hr) hy hd hS h
  obtain ⟨e, he, h9⟩ := Array.any_eq_true'.1 hb
  simp only [Bool.and_eq_true, beq_iff_eq] at h9
  exact ⟨e, he, h9⟩
theorem AnyL.forced {i : Nat} {o : Oper} {g : Nat} {d : Array Bool} {a : Act} {w : World} (hr : Region.ready md ops d = [i]) (ho : ops[i]? = some o) (hg : o.guard = none)
    (h : ∀ K : Act → World → Prop, (∀ a' w', S (d.setIfInBounds i true) w' → AnyL P md ops Q S g (d.setIfInBounds i true) a' w' → K a' w') → o.wp P a w K Q) : AnyL P md ops Q S (g + 1) d a w := by
  refine ⟨fun h0 => (by rw [hr] at h0; cases h0), fun j hj => ?_⟩
  rw [hr] at hj
  obtain rfl : j = i := by simpa using hj
  refine wpOp_step ho (fun K' hK => ?_)
  rw [if_pos (by unfold Region.wanted; rw [hg])]
  exact h K' (fun a' w' h1 h2 => hK a' w' ⟨h1, h2⟩)
end

section
variable {P : Program} {Q : Exit → Act → World → Prop}
end
end Go.Proofs.YtejchncdimcdbaaGreatDoor
