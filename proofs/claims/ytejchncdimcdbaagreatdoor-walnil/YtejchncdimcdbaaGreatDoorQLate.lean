/-
  A region that draws its order, with loads that must come ahead of SOME of its stores only ('a, b = b, a' of whole rows): what holds of the world hangs on what has been carried out. No program.
-/
import Derived.Deep.RegionHeld3
namespace Go.Proofs.YtejchncdimcdbaaGreatDoor
open Go
set_option linter.unusedVariables false
set_option linter.unusedSimpArgs false
section
variable {P : Program} {ops : Array Oper} {Q : Exit → Act → World → Prop} {md : Region.Mode} {S : Array Bool → World → Prop}

/-- Whatever comes up, S holds of what has come up and of the world behind it. -/
def AnyL (P : Program) (md : Region.Mode) (ops : Array Oper) (Q : Exit → Act → World → Prop) (S : Array Bool → World → Prop) : Nat → Array Bool → Act → World → Prop
  | 0, d, a, w => Region.ready md ops d = [] ∧ Q .normal a w
  | g + 1, d, a, w => (Region.ready md ops d = [] → Q .normal a w) ∧ ∀ i ∈ Region.ready md ops d, wpOp P ops Q i (fun a' w' => S (d.setIfInBounds i true) w' ∧ AnyL P md ops Q S g (d.setIfInBounds i true) a' w') a w

theorem AnyL.any : ∀ (g : Nat) (d : Array Bool) (a : Act) (w : World), AnyL P md ops Q S g d a w → wpAny P md ops Q g d a w
  | 0, _, _, _, h => h
  | g + 1, _, _, _, h => ⟨h.1, fun i hi => wpOp_mono (fun a' w' h' => AnyL.any g _ a' w' h'.2) (h.2 i hi)⟩

/-- Number i may be taken first, if it yields its value in every world that meets T, S says T as long as number t has not come up, and t waits for i. -/
theorem AnyL.first {i t : Nat} {oi ot : Oper} {v : Value} {T : World → Prop} (hi : ops[i]? = some oi) (ht : ops[t]? = some ot) (hit : t ≠ i) (hb : ∃ e ∈ ot.after, Region.binds md e = true ∧ e.on = i)
    (hsel : ∀ (j : Nat) (o : Oper) cs b, ops[j]? = some o → o.op ≠ .select cs b) (hQ : ∀ c a w, Q (.panic c) (a.put oi.dst v) w → Q (.panic c) a w)
    (hST : ∀ d w, S d w → d.getD t true = false → T w) (hSi : ∀ d w, S (d.setIfInBounds i true) w ↔ S d w) :
    ∀ (g : Nat) (d : Array Bool) (a : Act) (w : World),
      (∀ j oj, ops[j]? = some oj → j ≠ i → d.getD j true = false → (∀ e ∈ oj.after, Region.binds md e = true → e.on ≠ i) → oi.apart ops oj = true) →
      i ∈ Region.ready md ops d → YieldsIf P ops T oi v a → d.getD t true = false → S d w →
      AnyL P md ops Q S g (d.setIfInBounds i true) (a.put oi.dst v) w → AnyL P md ops Q S (g + 1) d a w := by
  intro g
  induction g with
  | zero =>
    intro d a w _ hr hy hdt hS H
    refine ⟨fun h => (by rw [h] at hr; cases hr), fun j hj => ?_⟩
    by_cases hji : j = i
    · subst hji; exact hy.wpOp hi (hST d w hS hdt) ⟨(hSi d w).2 hS, H⟩
    · have := ready_mono hj hji
      rw [H.1] at this
      cases this
  | succ g ih =>
    intro d a w hfree hr hy hdt hS H
    refine ⟨fun h => (by rw [h] at hr; cases hr), fun j hj => ?_⟩
    by_cases hji : j = i
    · subst hji; exact hy.wpOp hi (hST d w hS hdt) ⟨(hSi d w).2 hS, H⟩
    · have h1 := H.2 j (ready_mono hj hji)
      obtain ⟨hjun, oj, hoj, hall⟩ := mem_ready.1 hj
      have hnot : ∀ e ∈ oj.after, Region.binds md e = true → e.on ≠ i := fun e he hb heq => by
        have h1 := hall e he hb
        have h0 := (mem_ready.1 hr).1
        rw [heq] at h1
        rcases Nat.lt_or_ge i d.size with h' | h'
        · simp [h'] at h0 h1; rw [h0] at h1; cases h1
        · simp [Array.getElem?_eq_none h'] at h1
      have hjt : j ≠ t := fun e9 => by
        subst e9
        rw [ht] at hoj
        injection hoj with hoj
        obtain ⟨e, he, hb1, hb2⟩ := hb
        exact hnot e (by rw [← hoj]; exact he) hb1 hb2
      have h2 := wpOp_putIf hoj (hfree j oj hoj hji hjun hnot) (fun cs b => hsel i oi cs b hi) (fun cs b => hsel j oj cs b hoj) hQ hy h1
      refine wpOp_mono (fun a' w' h3 => ?_) h2
      have hc := Array.setIfInBounds_comm (xs := d) true true hji
      have hS' : S (d.setIfInBounds j true) w' := (hSi _ w').1 (by rw [hc]; exact h3.2.1)
      refine ⟨hS', ih (d.setIfInBounds j true) a' w' (fun k ok hk hki hun hno => ?_) (ready_mono hr (Ne.symm hji)) h3.1 ?_ hS' ?_⟩
      · refine hfree k ok hk hki ?_ hno
        by_cases hjk : j = k
        · subst hjk; exact hjun
        · rw [getD_set_ne true hjk] at hun; exact hun
      · rw [getD_set_ne true hjt]; exact hdt
      · rw [hc]; exact h3.2.2
theorem AnyL.take {i t : Nat} {oi ot : Oper} {v : Value} {T : World → Prop} {g : Nat} {d : Array Bool} {a : Act} {w : World} (hi : ops[i]? = some oi) (ht : ops[t]? = some ot) (hit : t ≠ i) (hs : Region.noSelect ops = true) (hf : Region.free md ops d i = true)
    (hr : (Region.ready md ops d).contains i = true) (hb : ot.after.any (fun e => Region.binds md e && e.on == i) = true) (hQ : ∀ c a w, Q (.panic c) (a.put oi.dst v) w → Q (.panic c) a w)
    (hST : ∀ d w, S d w → d.getD t true = false → T w) (hSi : ∀ d w, S (d.setIfInBounds i true) w ↔ S d w) (hy : YieldsIf P ops T oi v a) (hd : d.getD t true = false) (hS : S d w)
    (h : AnyL P md ops Q S g (d.setIfInBounds i true) (a.put oi.dst v) w) : AnyL P md ops Q S (g + 1) d a w := by
  refine AnyL.first hi ht hit ?_ (Region.noSelect_spec hs) hQ hST hSi g d a w (Region.free_spec hi hf) (by simpa using hr) hy hd hS h
  obtain ⟨e, he, h9⟩ := Array.any_eq_true'.1 hb
  simp only [Bool.and_eq_true, beq_iff_eq] at h9
  exact ⟨e, he, h9⟩
theorem AnyL.forced {i : Nat} {o : Oper} {g : Nat} {d : Array Bool} {a : Act} {w : World} (hr : Region.ready md ops d = [i]) (ho : ops[i]? = some o) (hg : o.guard = none)
    (h : ∀ K : Act → World → Prop, (∀ a' w', S (d.setIfInBounds i true) w' → AnyL P md ops Q S g (d.setIfInBounds i true) a' w' → K a' w') → o.wp P a w K Q) : AnyL P md ops Q S (g + 1) d a w := by
  refine ⟨fun h0 => (by rw [hr] at h0; cases h0), fun j hj => ?_⟩
  rw [hr] at hj
  obtain rfl : j = i := by simpa using hj
  refine wpOp_step ho (fun K' hK => ?_)
  rw [if_pos (by unfold Region.wanted; rw [hg])]
  exact h K' (fun a' w' h1 h2 => hK a' w' ⟨h1, h2⟩)
end

section
variable {P : Program} {Q : Exit → Act → World → Prop}
theorem wp_swap8 {id : Nat} {o0 o1 o2 o3 o4 o5 o6 o7 : Oper} {a : Act} {w : World} (T4 T6 : World → Prop) (hm : P.follows .mixedOrders = true) (hs : Region.noSelect #[o0, o1, o2, o3, o4, o5, o6, o7] = true)
    (f0 : Region.free .any #[o0, o1, o2, o3, o4, o5, o6, o7] #[false, false, false, false, false, false, false, false] 0 = true) (r0 : (Region.ready .any #[o0, o1, o2, o3, o4, o5, o6, o7] #[false, false, false, false, false, false, false, false]).contains 0 = true) (e0 : o4.after.any (fun e => Region.binds .any e && e.on == 0) = true)
    (f1 : Region.free .any #[o0, o1, o2, o3, o4, o5, o6, o7] #[true, false, false, false, false, false, false, false] 1 = true) (r1 : (Region.ready .any #[o0, o1, o2, o3, o4, o5, o6, o7] #[true, false, false, false, false, false, false, false]).contains 1 = true) (e1 : o4.after.any (fun e => Region.binds .any e && e.on == 1) = true)
    (f2 : Region.free .any #[o0, o1, o2, o3, o4, o5, o6, o7] #[true, true, false, false, false, false, false, false] 2 = true) (r2 : (Region.ready .any #[o0, o1, o2, o3, o4, o5, o6, o7] #[true, true, false, false, false, false, false, false]).contains 2 = true) (e2 : o6.after.any (fun e => Region.binds .any e && e.on == 2) = true)
    (f3 : Region.free .any #[o0, o1, o2, o3, o4, o5, o6, o7] #[true, true, true, false, false, false, false, false] 3 = true) (r3 : (Region.ready .any #[o0, o1, o2, o3, o4, o5, o6, o7] #[true, true, true, false, false, false, false, false]).contains 3 = true) (e3 : o4.after.any (fun e => Region.binds .any e && e.on == 3) = true)
    (r4 : Region.ready .any #[o0, o1, o2, o3, o4, o5, o6, o7] #[true, true, true, true, false, false, false, false] = [4]) (g4 : o4.guard = none)
    (r5 : Region.ready .any #[o0, o1, o2, o3, o4, o5, o6, o7] #[true, true, true, true, true, false, false, false] = [5]) (g5 : o5.guard = none)
    (r6 : Region.ready .any #[o0, o1, o2, o3, o4, o5, o6, o7] #[true, true, true, true, true, true, false, false] = [6]) (g6 : o6.guard = none)
    (r7 : Region.ready .any #[o0, o1, o2, o3, o4, o5, o6, o7] #[true, true, true, true, true, true, true, false] = [7]) (g7 : o7.guard = none)
    (rr : Region.ready .any #[o0, o1, o2, o3, o4, o5, o6, o7] #[true, true, true, true, true, true, true, true] = []) (hT4 : T4 w.drew) (hT6 : T6 w.drew) (v0 v1 v2 v3 : Value) (A0 A1 A2 A3 : Act)
    (p0 : a.put o0.dst v0 = A0) (p1 : A0.put o1.dst v1 = A1) (p2 : A1.put o2.dst v2 = A2) (p3 : A2.put o3.dst v3 = A3)
    (hy0 : YieldsIf P #[o0, o1, o2, o3, o4, o5, o6, o7] T4 o0 v0 a) (hy1 : YieldsIf P #[o0, o1, o2, o3, o4, o5, o6, o7] T4 o1 v1 A0) (hy2 : YieldsIf P #[o0, o1, o2, o3, o4, o5, o6, o7] T6 o2 v2 A1) (hy3 : YieldsIf P #[o0, o1, o2, o3, o4, o5, o6, o7] T4 o3 v3 A2)
    (W1 W2 W3 W4 : World) (s4 : ∀ K : Act → World → Prop, K A3 W1 → o4.wp P A3 w.drew K (NoPanic Q)) (k4 : T6 W1) (s5 : ∀ K : Act → World → Prop, K A3 W2 → o5.wp P A3 W1 K (NoPanic Q)) (k5 : T6 W2)
    (s6 : ∀ K : Act → World → Prop, K A3 W3 → o6.wp P A3 W2 K (NoPanic Q)) (s7 : ∀ K : Act → World → Prop, K A3 W4 → o7.wp P A3 W3 K (NoPanic Q)) (h : Q .normal A3 W4) :
    (Code.region id #[o0, o1, o2, o3, o4, o5, o6, o7] true).wp P Q a w := by
  subst p0 p1 p2 p3
  refine wp_region_noPanic ?_
  refine wp_region_any hm ?_
  refine AnyL.any (S := fun d w' => (d.getD 4 true = false → T4 w') ∧ (d.getD 6 true = false → T6 w')) _ _ _ _ ?_
  show AnyL P .any #[o0, o1, o2, o3, o4, o5, o6, o7] (NoPanic Q) _ 8 #[false, false, false, false, false, false, false, false] a w.drew
  have hSi : ∀ i, i ≠ 4 → i ≠ 6 → ∀ (d : Array Bool) (w' : World), (((d.setIfInBounds i true).getD 4 true = false → T4 w') ∧ ((d.setIfInBounds i true).getD 6 true = false → T6 w')) ↔ ((d.getD 4 true = false → T4 w') ∧ (d.getD 6 true = false → T6 w')) := by
    intro i h4 h6 d w'
    rw [getD_set_ne true h4, getD_set_ne true h6]
  have hS0 : ∀ d : Array Bool, (d.getD 4 true = false → T4 w.drew) ∧ (d.getD 6 true = false → T6 w.drew) := fun d => ⟨fun _ => hT4, fun _ => hT6⟩
  refine AnyL.take (i := 0) (t := 4) (oi := o0) (ot := o4) (T := T4) rfl rfl (by decide) hs f0 r0 e0 (fun _ _ _ h => h) (fun d w' h9 hd => h9.1 hd) (hSi 0 (by decide) (by decide)) hy0 rfl (hS0 _) ?_
  refine AnyL.take (i := 1) (t := 4) (oi := o1) (ot := o4) (T := T4) rfl rfl (by decide) hs f1 r1 e1 (fun _ _ _ h => h) (fun d w' h9 hd => h9.1 hd) (hSi 1 (by decide) (by decide)) hy1 rfl (hS0 _) ?_
  refine AnyL.take (i := 2) (t := 6) (oi := o2) (ot := o6) (T := T6) rfl rfl (by decide) hs f2 r2 e2 (fun _ _ _ h => h) (fun d w' h9 hd => h9.2 hd) (hSi 2 (by decide) (by decide)) hy2 rfl (hS0 _) ?_
  refine AnyL.take (i := 3) (t := 4) (oi := o3) (ot := o4) (T := T4) rfl rfl (by decide) hs f3 r3 e3 (fun _ _ _ h => h) (fun d w' h9 hd => h9.1 hd) (hSi 3 (by decide) (by decide)) hy3 rfl (hS0 _) ?_
  refine AnyL.forced r4 rfl g4 (fun K hK => s4 K (hK _ _ ⟨fun h9 => (by cases h9), fun _ => k4⟩ ?_))
  refine AnyL.forced r5 rfl g5 (fun K hK => s5 K (hK _ _ ⟨fun h9 => (by cases h9), fun _ => k5⟩ ?_))
  refine AnyL.forced r6 rfl g6 (fun K hK => s6 K (hK _ _ ⟨fun h9 => (by cases h9), fun h9 => (by cases h9)⟩ ?_))
  refine AnyL.forced r7 rfl g7 (fun K hK => s7 K (hK _ _ ⟨fun h9 => (by cases h9), fun h9 => (by cases h9)⟩ ?_))
  exact ⟨rr, NoPanic.normal h⟩
theorem wp_asg4 {id : Nat} {o0 o1 o2 o3 : Oper} {a : Act} {w : World} (S : World → Prop) (hm : P.follows .mixedOrders = true) (hs : Region.noSelect #[o0, o1, o2, o3] = true)
    (f0 : Region.free .any #[o0, o1, o2, o3] #[false, false, false, false] 0 = true) (r0 : (Region.ready .any #[o0, o1, o2, o3] #[false, false, false, false]).contains 0 = true) (f1 : Region.free .any #[o0, o1, o2, o3] #[true, false, false, false] 1 = true) (r1 : (Region.ready .any #[o0, o1, o2, o3] #[true, false, false, false]).contains 1 = true)
    (r2 : Region.ready .any #[o0, o1, o2, o3] #[true, true, false, false] = [2]) (r3 : Region.ready .any #[o0, o1, o2, o3] #[true, true, true, false] = [3]) (rr : Region.ready .any #[o0, o1, o2, o3] #[true, true, true, true] = []) (g2 : o2.guard = none) (g3 : o3.guard = none)
    (hS : S w.drew) (v0 v1 : Value) (A0 A1 : Act) (p0 : a.put o0.dst v0 = A0) (p1 : A0.put o1.dst v1 = A1) (hy0 : YieldsIf P #[o0, o1, o2, o3] S o0 v0 a) (hy1 : YieldsIf P #[o0, o1, o2, o3] S o1 v1 A0)
    (W1 W2 : World) (s2 : ∀ K : Act → World → Prop, K A1 W1 → o2.wp P A1 w.drew K (NoPanic Q)) (k2 : S W1) (s3 : ∀ K : Act → World → Prop, K A1 W2 → o3.wp P A1 W1 K (NoPanic Q)) (k3 : S W2) (h : Q .normal A1 W2) :
    (Code.region id #[o0, o1, o2, o3] true).wp P Q a w := by
  subst p0 p1
  refine wp_region_noPanic ?_
  refine wp_region_held_drew (S := S) hm hS (fun hH => ?_)
  show wpAnyH P .any #[o0, o1, o2, o3] (NoPanic Q) S 4 #[false, false, false, false] a w.drew
  refine wpAnyH_take (i := 0) (oi := o0) rfl hs f0 r0 (fun _ _ _ h => h) hy0 hS ?_
  refine wpAnyH_take (i := 1) (oi := o1) rfl hs f1 r1 (fun _ _ _ h => h) hy1 hS ?_
  refine wpAnyH_ready (rs := [2]) r2 (by simp) (AllReadyH.cons (o := o2) rfl (fun K hK => ?_) AllReadyH.nil)
  have wa : ∀ y, Region.wanted o2 y = true := fun y => by unfold Region.wanted; rw [g2]
  rw [if_pos (wa _)]
  refine s2 K (hK.out _ _ k2 (fun _ => ?_))
  refine wpAnyH_ready (rs := [3]) r3 (by simp) (AllReadyH.cons (o := o3) rfl (fun K hK => ?_) AllReadyH.nil)
  have wb : ∀ y, Region.wanted o3 y = true := fun y => by unfold Region.wanted; rw [g3]
  rw [if_pos (wb _)]
  refine s3 K (hK.out _ _ k3 (fun _ => ?_))
  exact ⟨rr, NoPanic.normal h⟩
end
end Go.Proofs.YtejchncdimcdbaaGreatDoor
