import Derived.Deep.RegionHeld3
import Derived.Test.YtjafmnemobcipaaDoorRowz
import Derived.Test.YtjafmnemobcipaaDoorTopD
import Derived.Test.YtjafmnemobcipaaDoorTopC
/-
  A region that draws its order, with loads that must come ahead of SOME of its stores only ('a, b = b, a' of whole rows): what holds of the world hangs on what has been carried out. No program.
-/
namespace Go.Proofs.YtjafmnemobcipaaDoor
open Go
set_option linter.unusedVariables false
set_option linter.unusedSimpArgs false
section
variable {P : Program} {ops : Array Oper} {Q : Exit → Act → World → Prop} {md : Region.Mode} {S : Array Bool → World → Prop}

/-- Whatever comes up, S holds of what has come up and of the world behind it. -/
def AnyL (P : Program) (md : Region.Mode) (ops : Array Oper) (Q : Exit → Act → World → Prop) (S : Array Bool → World → Prop) : Nat → Array Bool → Act → World → Prop
  | 0, d, a, w => Region.ready md ops d = [] ∧ Q .normal a w
  | g + 1, d, a, w => (Region.ready md ops d = [] → Q .normal a w) ∧ ∀ i ∈ Region.ready md ops d, wpOp P ops Q i (fun a' w' => S (d.setIfInBounds i true) w' ∧ AnyL P md ops Q S g (d.setIfInBounds i true) a' w') a w

theorem AnyL.any : ∀ (g : Nat) (d : Array Bool) (a : Act) (w : World), AnyL P md ops Q S g d a w → wpAny P md ops Q g d a w
  | 0, _, _, _, h => h
  | g + 1, _, _, _, h => ⟨h.1, fun i hi => wpOp_mono (fun a' w' h' => AnyL.any g _ a' w' h'.2) (h.2 i hi)⟩

/-- Number i may be taken first, if it yields its value in every world that meets T, S says T as long as number t has not come up, and t waits for i. -/
theorem AnyL.first {i t : Nat} {oi ot : Oper} {v : Value} {T : World → Prop} (hi : ops[i]? = some oi) (ht : ops[t]? = some ot) (hit : t ≠ i) (hb : ∃ e ∈ ot.after, Region.binds md e = true ∧ e.on = i)
    (hsel : ∀ (j : Nat) (o : Oper) cs b, ops[j]? = some o → o.op ≠ .select cs b) (hQ : ∀ c a w, Q (.panic c) (a.put oi.dst v) w → Q (.panic c) a w)
    (hST : ∀ d w, S d w → d.getD t true = false → T w) (hSi : ∀ d w, S (d.setIfInBounds i true) w ↔ S d w) :
    ∀ (g : Nat) (d : Array Bool) (a : Act) (w : World),
      (∀ j oj, ops[j]? = some oj → j ≠ i → d.getD j true = false → (∀ e ∈ oj.after, Region.binds md e = true → e.on ≠ i) → oi.apart ops oj = true) →
      i ∈ Region.ready md ops d → YieldsIf P ops T oi v a → d.getD t true = false → S d w →
      AnyL P md ops Q S g (d.setIfInBounds i true) (a.put oi.dst v) w → AnyL P md ops Q S (g + 1) d a w := by
  intro g
  induction g with
  | zero =>
    intro d a w _ hr hy hdt hS H
    refine ⟨fun h => (by rw [h] at hr; cases hr), fun j hj => ?_⟩
    by_cases hji : j = i
    · subst hji; exact hy.wpOp hi (hST d w hS hdt) ⟨(hSi d w).2 hS, H⟩
    · have := ready_mono hj hji
      rw [H.1] at this
      cases this
  | succ g ih =>
    intro d a w hfree hr hy hdt hS H
    refine ⟨fun h => (by rw [h] at hr; cases hr), fun j hj => ?_⟩
    by_cases hji : j = i
    · subst hji; exact hy.wpOp hi (hST d w hS hdt) ⟨(hSi d w).2 hS, H⟩
    · have h1 := H.2 j (ready_mono hj hji)
      obtain ⟨hjun, oj, hoj, hall⟩ := mem_ready.1 hj
      have hnot : ∀ e ∈ oj.after, Region.binds md e = true → e.on ≠ i := fun e he hb heq => by
        have h1 := hall e he hb
        have h0 := (mem_ready.1 hr).1
        rw [heq] at h1
        rcases Nat.lt_or_ge i d.size with h' | h'
        · simp [h'] at h0 h1; rw [h0] at h1; cases h1
        · simp [Array.getElem?_eq_none h'] at h1
      have hjt : j ≠ t := fun e9 => by
        subst e9
        rw [ht] at hoj
        injection hoj with hoj
        obtain ⟨e, he, hb1, hb2⟩ := hb
        exact hnot e (by rw [← hoj]; exact he) hb1 hb2
      have h2 := wpOp_putIf hoj (hfree j oj hoj hji hjun hnot) (fun cs b => hsel i oi cs b hi) (fun cs b => hsel j oj cs b hoj) hQ hy h1
      refine wpOp_mono (fun a' w' h3 => ?_) h2
      have hc := Array.setIfInBounds_comm (xs := d) true true hji
      have hS' : S (d.setIfInBounds j true) w' := (hSi _ w').1 (by rw [hc]; exact h3.2.1)
      refine ⟨hS', ih (d.setIfInBounds j true) a' w' (fun k ok hk hki hun hno => ?_) (ready_mono hr (Ne.symm hji)) h3.1 ?_ hS' ?_⟩
      · refine hfree k ok hk hki ?_ hno
        by_cases hjk : j = k
        · subst hjk; exact hjun
        · rw [getD_set_ne true hjk] at hun; exact hun
      · rw [getD_set_ne true hjt]; exact hdt
      · rw [hc]; exact h3.2.2
theorem AnyL.take {i t : Nat} {oi ot : Oper} {v : Value} {T : World → Prop} {g : Nat} {d : Array Bool} {a : Act} {w : World} (hi : ops[i]? = some oi) (ht : ops[t]? = some ot) (hit : t ≠ i) (hs : Region.noSelect ops = true) (hf : Region.free md ops d i = true)
    (hr : (Region.ready md ops d).contains i = true) (hb : ot.after.any (fun e => Region.binds md e && e.on == i) = true) (hQ : ∀ c a w, Q (.panic c) (a.put oi.dst v) w → Q (.panic c) a w)
    (hST : ∀ d w, S d w → d.getD t true = false → T w) (hSi : ∀ d w, S (d.setIfInBounds i true) w ↔ S d w) (hy : YieldsIf P ops T oi v a) (hd : d.getD t true = false) (hS : S d w)
    (h : AnyL P md ops Q S g (d.setIfInBounds i true) (a.put oi.dst v) w) : AnyL P md ops Q S (g + 1) d a w := by
  refine AnyL.first hi ht hit ?_ (Region.noSelect_spec hs) hQ hST hSi g d a w (Region.free_spec hi hf) (by simpa using hr) hy hd hS h
  obtain ⟨e, he, h9⟩ := Array.any_eq_true'.1 hb
  simp only [Bool.and_eq_true, beq_iff_eq] at h9
  exact ⟨e, he, h9⟩
theorem AnyL.forced {i : Nat} {o : Oper} {g : Nat} {d : Array Bool} {a : Act} {w : World} (hr : Region.ready md ops d = [i]) (ho : ops[i]? = some o) (hg : o.guard = none)
    (h : ∀ K : Act → World → Prop, (∀ a' w', S (d.setIfInBounds i true) w' → AnyL P md ops Q S g (d.setIfInBounds i true) a' w' → K a' w') → o.wp P a w K Q) : AnyL P md ops Q S (g + 1) d a w := by
  refine ⟨fun h0 => (by rw [hr] at h0; cases h0), fun j hj => ?_⟩
  rw [hr] at hj
  obtain rfl : j = i := by simpa using hj
  refine wpOp_step ho (fun K' hK => ?_)
  rw [if_pos (by unfold Region.wanted; rw [hg])]
  exact h K' (fun a' w' h1 h2 => hK a' w' ⟨h1, h2⟩)
end

section
variable {P : Program} {Q : Exit → Act → World → Prop}
theorem wp_swap8 {id : Nat} {o0 o1 o2 o3 o4 o5 o6 o7 : Oper} {a : Act} {w : World} (T4 T6 : World → Prop) (hm : P.follows .mixedOrders = true) (hs : Region.noSelect #[o0, o1, o2, o3, o4, o5, o6, o7] = true)
    (f0 : Region.free .any #[o0, o1, o2, o3, o4, o5, o6, o7] #[false, false, false, false, false, false, false, false] 0 = true) (r0 : (Region.ready .any #[o0, o1, o2, o3, o4, o5, o6, o7] #[false, false, false, false, false, false, false, false]).contains 0 = true) (e0 : o4.after.any (fun e => Region.binds .any e && e.on == 0) = true)
    (f1 : Region.free .any #[o0, o1, o2, o3, o4, o5, o6, o7] #[true, false, false, false, false, false, false, false] 1 = true) (r1 : (Region.ready .any #[o0, o1, o2, o3, o4, o5, o6, o7] #[true, false, false, false, false, false, false, false]).contains 1 = true) (e1 : o4.after.any (fun e => Region.binds .any e && e.on == 1) = true)
    (f2 : Region.free .any #[o0, o1, o2, o3, o4, o5, o6, o7] #[true, true, false, false, false, false, false, false] 2 = true) (r2 : (Region.ready .any #[o0, o1, o2, o3, o4, o5, o6, o7] #[true, true, false, false, false, false, false, false]).contains 2 = true) (e2 : o6.after.any (fun e => Region.binds .any e && e.on == 2) = true)
    (f3 : Region.free .any #[o0, o1, o2, o3, o4, o5, o6, o7] #[true, true, true, false, false, false, false, false] 3 = true) (r3 : (Region.ready .any #[o0, o1, o2, o3, o4, o5, o6, o7] #[true, true, true, false, false, false, false, false]).contains 3 = true) (e3 : o4.after.any (fun e => Region.binds .any e && e.on == 3) = true)
    (r4 : Region.ready .any #[o0, o1, o2, o3, o4, o5, o6, o7] #[true, true, true, true, false, false, false, false] = [4]) (g4 : o4.guard = none)
    (r5 : Region.ready .any #[o0, o1, o2, o3, o4, o5, o6, o7] #[true, true, true, true, true, false, false, false] = [5]) (g5 : o5.guard = none)
    (r6 : Region.ready .any #[o0, o1, o2, o3, o4, o5, o6, o7] #[true, true, true, true, true, true, false, false] = [6]) (g6 : o6.guard = none)
    (r7 : Region.ready .any #[o0, o1, o2, o3, o4, o5, o6, o7] #[true, true, true, true, true, true, true, false] = [7]) (g7 : o7.guard = none)
    (rr : Region.ready .any #[o0, o1, o2, o3, o4, o5, o6, o7] #[true, true, true, true, true, true, true, true] = []) (hT4 : T4 w.drew) (hT6 : T6 w.drew) (v0 v1 v2 v3 : Value) (A0 A1 A2 A3 : Act)
    (p0 : a.put o0.dst v0 = A0) (p1 : A0.put o1.dst v1 = A1) (p2 : A1.put o2.dst v2 = A2) (p3 : A2.put o3.dst v3 = A3)
    (hy0 : YieldsIf P #[o0, o1, o2, o3, o4, o5, o6, o7] T4 o0 v0 a) (hy1 : YieldsIf P #[o0, o1, o2, o3, o4, o5, o6, o7] T4 o1 v1 A0) (hy2 : YieldsIf P #[o0, o1, o2, o3, o4, o5, o6, o7] T6 o2 v2 A1) (hy3 : YieldsIf P #[o0, o1, o2, o3, o4, o5, o6, o7] T4 o3 v3 A2)
    (W1 W2 W3 W4 : World) (s4 : ∀ K : Act → World → Prop, K A3 W1 → o4.wp P A3 w.drew K (NoPanic Q)) (k4 : T6 W1) (s5 : ∀ K : Act → World → Prop, K A3 W2 → o5.wp P A3 W1 K (NoPanic Q)) (k5 : T6 W2)
    (s6 : ∀ K : Act → World → Prop, K A3 W3 → o6.wp P A3 W2 K (NoPanic Q)) (s7 : ∀ K : Act → World → Prop, K A3 W4 → o7.wp P A3 W3 K (NoPanic Q)) (h : Q .normal A3 W4) :
    (Code.region id #[o0, o1, o2, o3, o4, o5, o6, o7] true).wp P Q a w := by
  subst p0 p1 p2 p3
  refine wp_region_noPanic ?_
  refine wp_region_any hm ?_
  refine AnyL.any (S := fun d w' => (d.getD 4 true = false → T4 w') ∧ (d.getD 6 true = false → T6 w')) _ _ _ _ ?_
  show AnyL P .any #[o0, o1, o2, o3, o4, o5, o6, o7] (NoPanic Q) _ 8 #[false, false, false, false, false, false, false, false] a w.drew
  have hSi : ∀ i, i ≠ 4 → i ≠ 6 → ∀ (d : Array Bool) (w' : World), (((d.setIfInBounds i true).getD 4 true = false → T4 w') ∧ ((d.setIfInBounds i true).getD 6 true = false → T6 w')) ↔ ((d.getD 4 true = false → T4 w') ∧ (d.getD 6 true = false → T6 w')) := by
    intro i h4 h6 d w'
    rw [getD_set_ne true h4, getD_set_ne true h6]
  have hS0 : ∀ d : Array Bool, (d.getD 4 true = false → T4 w.drew) ∧ (d.getD 6 true = false → T6 w.drew) := fun d => ⟨fun _ => hT4, fun _ => hT6⟩
  refine AnyL.take (i := 0) (t := 4) (oi := o0) (ot := o4) (T := T4) rfl rfl (by decide) hs f0 r0 e0 (fun _ _ _ h => h) (fun d w' h9 hd => h9.1 hd) (hSi 0 (by decide) (by decide)) hy0 rfl (hS0 _) ?_
  refine AnyL.take (i := 1) (t := 4) (oi := o1) (ot := o4) (T := T4) rfl rfl (by decide) hs f1 r1 e1 (fun _ _ _ h => h) (fun d w' h9 hd => h9.1 hd) (hSi 1 (by decide) (by decide)) hy1 rfl (hS0 _) ?_
  refine AnyL.take (i := 2) (t := 6) (oi := o2) (ot := o6) (T := T6) rfl rfl (by decide) hs f2 r2 e2 (fun _ _ _ h => h) (fun d w' h9 hd => h9.2 hd) (hSi 2 (by decide) (by decide)) hy2 rfl (hS0 _) ?_
  refine AnyL.take (i := 3) (t := 4) (oi := o3) (ot := o4) (T := T4) rfl rfl (by decide) hs f3 r3 e3 (fun _ _ _ h => h) (fun d w' h9 hd => h9.1 hd) (hSi 3 (by decide) (by decide)) hy3 rfl (hS0 _) ?_
  refine AnyL.forced r4 rfl g4 (fun K hK => s4 K (hK _ _ ⟨fun h9 => (by cases h9), fun _ => k4⟩ ?_))
  refine AnyL.forced r5 rfl g5 (fun K hK => s5 K (hK _ _ ⟨fun h9 => (by cases h9), fun _ => k5⟩ ?_))
  refine AnyL.forced r6 rfl g6 (fun K hK => s6 K (hK _ _ ⟨fun h9 => (by cases h9), fun h9 => (by cases h9)⟩ ?_))
  refine AnyL.forced r7 rfl g7 (fun K hK => s7 K (hK _ _ ⟨fun h9 => (by cases h9), fun h9 => (by cases h9)⟩ ?_))
  exact ⟨rr, NoPanic.normal h⟩
theorem wp_asg4 {id : Nat} {o0 o1 o2 o3 : Oper} {a : Act} {w : World} (S : World → Prop) (hm : P.follows .mixedOrders = true) (hs : Region.noSelect #[o0, o1, o2, o3] = true)
    (f0 : Region.free .any #[o0, o1, o2, o3] #[false, false, false, false] 0 = true) (r0 : (Region.ready .any #[o0, o1, o2, o3] #[false, false, false, false]).contains 0 = true) (f1 : Region.free .any #[o0, o1, o2, o3] #[true, false, false, false] 1 = true) (r1 : (Region.ready .any #[o0, o1, o2, o3] #[true, false, false, false]).contains 1 = true)
    (r2 : Region.ready .any #[o0, o1, o2, o3] #[true, true, false, false] = [2]) (r3 : Region.ready .any #[o0, o1, o2, o3] #[true, true, true, false] = [3]) (rr : Region.ready .any #[o0, o1, o2, o3] #[true, true, true, true] = []) (g2 : o2.guard = none) (g3 : o3.guard = none)
    (hS : S w.drew) (v0 v1 : Value) (A0 A1 : Act) (p0 : a.put o0.dst v0 = A0) (p1 : A0.put o1.dst v1 = A1) (hy0 : YieldsIf P #[o0, o1, o2, o3] S o0 v0 a) (hy1 : YieldsIf P #[o0, o1, o2, o3] S o1 v1 A0)
    (W1 W2 : World) (s2 : ∀ K : Act → World → Prop, K A1 W1 → o2.wp P A1 w.drew K (NoPanic Q)) (k2 : S W1) (s3 : ∀ K : Act → World → Prop, K A1 W2 → o3.wp P A1 W1 K (NoPanic Q)) (k3 : S W2) (h : Q .normal A1 W2) :
    (Code.region id #[o0, o1, o2, o3] true).wp P Q a w := by
  subst p0 p1
  refine wp_region_noPanic ?_
  refine wp_region_held_drew (S := S) hm hS (fun hH => ?_)
  show wpAnyH P .any #[o0, o1, o2, o3] (NoPanic Q) S 4 #[false, false, false, false] a w.drew
  refine wpAnyH_take (i := 0) (oi := o0) rfl hs f0 r0 (fun _ _ _ h => h) hy0 hS ?_
  refine wpAnyH_take (i := 1) (oi := o1) rfl hs f1 r1 (fun _ _ _ h => h) hy1 hS ?_
  refine wpAnyH_ready (rs := [2]) r2 (by simp) (AllReadyH.cons (o := o2) rfl (fun K hK => ?_) AllReadyH.nil)
  have wa : ∀ y, Region.wanted o2 y = true := fun y => by unfold Region.wanted; rw [g2]
  rw [if_pos (wa _)]
  refine s2 K (hK.out _ _ k2 (fun _ => ?_))
  refine wpAnyH_ready (rs := [3]) r3 (by simp) (AllReadyH.cons (o := o3) rfl (fun K hK => ?_) AllReadyH.nil)
  have wb : ∀ y, Region.wanted o3 y = true := fun y => by unfold Region.wanted; rw [g3]
  rw [if_pos (wb _)]
  refine s3 K (hK.out _ _ k3 (fun _ => ?_))
  exact ⟨rr, NoPanic.normal h⟩
end
end Go.Proofs.YtjafmnemobcipaaDoor
/-
  Laws for drawn regions with a late store, by genchain.py. No program.
-/
namespace Go.Proofs.YtjafmnemobcipaaDoor
open Go Go.RowKit Go.BigFrame
set_option linter.unusedVariables false
set_option linter.unusedSimpArgs false
section
variable {P : Program} {Q : Exit → Act → World → Prop}
theorem wp_tw13 {id : Nat} {o0 o1 o2 o3 o4 o5 o6 o7 o8 o9 o10 o11 o12 : Oper} {a : Act} {w : World} (hm : P.follows .mixedOrders = true) (hs : Region.noSelect #[o0, o1, o2, o3, o4, o5, o6, o7, o8, o9, o10, o11, o12] = true)
    (f0 : Region.free .any #[o0, o1, o2, o3, o4, o5, o6, o7, o8, o9, o10, o11, o12] #[false, false, false, false, false, false, false, false, false, false, false, false, false] 0 = true) (r0 : (Region.ready .any #[o0, o1, o2, o3, o4, o5, o6, o7, o8, o9, o10, o11, o12] #[false, false, false, false, false, false, false, false, false, false, false, false, false]).contains 0 = true) (e0 : o12.after.any (fun e => Region.binds .any e && e.on == 0) = true)
    (f1 : Region.free .any #[o0, o1, o2, o3, o4, o5, o6, o7, o8, o9, o10, o11, o12] #[true, false, false, false, false, false, false, false, false, false, false, false, false] 1 = true) (r1 : (Region.ready .any #[o0, o1, o2, o3, o4, o5, o6, o7, o8, o9, o10, o11, o12] #[true, false, false, false, false, false, false, false, false, false, false, false, false]).contains 1 = true) (e1 : o12.after.any (fun e => Region.binds .any e && e.on == 1) = true)
    (f2 : Region.free .any #[o0, o1, o2, o3, o4, o5, o6, o7, o8, o9, o10, o11, o12] #[true, true, false, false, false, false, false, false, false, false, false, false, false] 2 = true) (r2 : (Region.ready .any #[o0, o1, o2, o3, o4, o5, o6, o7, o8, o9, o10, o11, o12] #[true, true, false, false, false, false, false, false, false, false, false, false, false]).contains 2 = true) (e2 : o12.after.any (fun e => Region.binds .any e && e.on == 2) = true)
    (f3 : Region.free .any #[o0, o1, o2, o3, o4, o5, o6, o7, o8, o9, o10, o11, o12] #[true, true, true, false, false, false, false, false, false, false, false, false, false] 3 = true) (r3 : (Region.ready .any #[o0, o1, o2, o3, o4, o5, o6, o7, o8, o9, o10, o11, o12] #[true, true, true, false, false, false, false, false, false, false, false, false, false]).contains 3 = true) (e3 : o12.after.any (fun e => Region.binds .any e && e.on == 3) = true)
    (f5 : Region.free .any #[o0, o1, o2, o3, o4, o5, o6, o7, o8, o9, o10, o11, o12] #[true, true, true, true, false, false, false, false, false, false, false, false, false] 5 = true) (r5 : (Region.ready .any #[o0, o1, o2, o3, o4, o5, o6, o7, o8, o9, o10, o11, o12] #[true, true, true, true, false, false, false, false, false, false, false, false, false]).contains 5 = true) (e5 : o12.after.any (fun e => Region.binds .any e && e.on == 5) = true)
    (f6 : Region.free .any #[o0, o1, o2, o3, o4, o5, o6, o7, o8, o9, o10, o11, o12] #[true, true, true, true, false, true, false, false, false, false, false, false, false] 6 = true) (r6 : (Region.ready .any #[o0, o1, o2, o3, o4, o5, o6, o7, o8, o9, o10, o11, o12] #[true, true, true, true, false, true, false, false, false, false, false, false, false]).contains 6 = true) (e6 : o12.after.any (fun e => Region.binds .any e && e.on == 6) = true)
    (q4 : Region.ready .any #[o0, o1, o2, o3, o4, o5, o6, o7, o8, o9, o10, o11, o12] #[true, true, true, true, false, true, true, false, false, false, false, false, false] = [4]) (g4 : o4.guard = none)
    (q7 : Region.ready .any #[o0, o1, o2, o3, o4, o5, o6, o7, o8, o9, o10, o11, o12] #[true, true, true, true, true, true, true, false, false, false, false, false, false] = [7]) (g7 : o7.guard = none)
    (q8 : Region.ready .any #[o0, o1, o2, o3, o4, o5, o6, o7, o8, o9, o10, o11, o12] #[true, true, true, true, true, true, true, true, false, false, false, false, false] = [8]) (g8 : o8.guard = none)
    (q9 : Region.ready .any #[o0, o1, o2, o3, o4, o5, o6, o7, o8, o9, o10, o11, o12] #[true, true, true, true, true, true, true, true, true, false, false, false, false] = [9]) (g9 : o9.guard = none)
    (q10 : Region.ready .any #[o0, o1, o2, o3, o4, o5, o6, o7, o8, o9, o10, o11, o12] #[true, true, true, true, true, true, true, true, true, true, false, false, false] = [10]) (g10 : o10.guard = none)
    (q11 : Region.ready .any #[o0, o1, o2, o3, o4, o5, o6, o7, o8, o9, o10, o11, o12] #[true, true, true, true, true, true, true, true, true, true, true, false, false] = [11]) (g11 : o11.guard = none)
    (q12 : Region.ready .any #[o0, o1, o2, o3, o4, o5, o6, o7, o8, o9, o10, o11, o12] #[true, true, true, true, true, true, true, true, true, true, true, true, false] = [12]) (g12 : o12.guard = none)
    (rr : Region.ready .any #[o0, o1, o2, o3, o4, o5, o6, o7, o8, o9, o10, o11, o12] #[true, true, true, true, true, true, true, true, true, true, true, true, true] = [])
    (v0 v1 v2 v3 v5 v6 : Value) (A0 A1 A2 A3 A4 A5 : Act) (T : World → Prop)
    (I0 : World → Prop)
    (I1 : Value → World → Prop)
    (I2 : Value → Value → World → Prop)
    (I3 : Value → Value → Value → World → Prop)
    (I4 : Value → Value → Value → Value → World → Prop)
    (I5 : Value → Value → Value → Value → Value → World → Prop)
    (I6 : Value → Value → Value → Value → Value → Value → World → Prop)
    (IE : Value → Value → Value → Value → Value → Value → World → Prop)
    (p0 : a.put o0.dst v0 = A0) (hy0 : YieldsIf P #[o0, o1, o2, o3, o4, o5, o6, o7, o8, o9, o10, o11, o12] T o0 v0 a)
    (p1 : A0.put o1.dst v1 = A1) (hy1 : YieldsIf P #[o0, o1, o2, o3, o4, o5, o6, o7, o8, o9, o10, o11, o12] T o1 v1 A0)
    (p2 : A1.put o2.dst v2 = A2) (hy2 : YieldsIf P #[o0, o1, o2, o3, o4, o5, o6, o7, o8, o9, o10, o11, o12] T o2 v2 A1)
    (p3 : A2.put o3.dst v3 = A3) (hy3 : YieldsIf P #[o0, o1, o2, o3, o4, o5, o6, o7, o8, o9, o10, o11, o12] T o3 v3 A2)
    (p5 : A3.put o5.dst v5 = A4) (hy5 : YieldsIf P #[o0, o1, o2, o3, o4, o5, o6, o7, o8, o9, o10, o11, o12] T o5 v5 A3)
    (p6 : A4.put o6.dst v6 = A5) (hy6 : YieldsIf P #[o0, o1, o2, o3, o4, o5, o6, o7, o8, o9, o10, o11, o12] T o6 v6 A4)
    (i0 : I0 w.drew)
    (hIT : (∀ w', I0  w' → T w') ∧ (∀ (u0 : Value) w', I1 u0 w' → T w') ∧ (∀ (u0 u1 : Value) w', I2 u0 u1 w' → T w') ∧ (∀ (u0 u1 u2 : Value) w', I3 u0 u1 u2 w' → T w') ∧ (∀ (u0 u1 u2 u3 : Value) w', I4 u0 u1 u2 u3 w' → T w') ∧ (∀ (u0 u1 u2 u3 u4 : Value) w', I5 u0 u1 u2 u3 u4 w' → T w') ∧ (∀ (u0 u1 u2 u3 u4 u5 : Value) w', I6 u0 u1 u2 u3 u4 u5 w' → T w'))
    (s0 : ∀ w', I0  w' → ∀ K : Act → World → Prop, (∀ (u0 : Value) w2, I1 u0 w2 → K (A5.put o4.dst u0) w2) → o4.wp P A5 w' K (NoPanic Q))
    (s1 : ∀ (u0 : Value) w', I1 u0 w' → ∀ K : Act → World → Prop, (∀ (u1 : Value) w2, I2 u0 u1 w2 → K ((A5.put o4.dst u0).put o7.dst u1) w2) → o7.wp P (A5.put o4.dst u0) w' K (NoPanic Q))
    (s2 : ∀ (u0 u1 : Value) w', I2 u0 u1 w' → ∀ K : Act → World → Prop, (∀ (u2 : Value) w2, I3 u0 u1 u2 w2 → K (((A5.put o4.dst u0).put o7.dst u1).put o8.dst u2) w2) → o8.wp P ((A5.put o4.dst u0).put o7.dst u1) w' K (NoPanic Q))
    (s3 : ∀ (u0 u1 u2 : Value) w', I3 u0 u1 u2 w' → ∀ K : Act → World → Prop, (∀ (u3 : Value) w2, I4 u0 u1 u2 u3 w2 → K ((((A5.put o4.dst u0).put o7.dst u1).put o8.dst u2).put o9.dst u3) w2) → o9.wp P (((A5.put o4.dst u0).put o7.dst u1).put o8.dst u2) w' K (NoPanic Q))
    (s4 : ∀ (u0 u1 u2 u3 : Value) w', I4 u0 u1 u2 u3 w' → ∀ K : Act → World → Prop, (∀ (u4 : Value) w2, I5 u0 u1 u2 u3 u4 w2 → K (((((A5.put o4.dst u0).put o7.dst u1).put o8.dst u2).put o9.dst u3).put o10.dst u4) w2) → o10.wp P ((((A5.put o4.dst u0).put o7.dst u1).put o8.dst u2).put o9.dst u3) w' K (NoPanic Q))
    (s5 : ∀ (u0 u1 u2 u3 u4 : Value) w', I5 u0 u1 u2 u3 u4 w' → ∀ K : Act → World → Prop, (∀ (u5 : Value) w2, I6 u0 u1 u2 u3 u4 u5 w2 → K ((((((A5.put o4.dst u0).put o7.dst u1).put o8.dst u2).put o9.dst u3).put o10.dst u4).put o11.dst u5) w2) → o11.wp P (((((A5.put o4.dst u0).put o7.dst u1).put o8.dst u2).put o9.dst u3).put o10.dst u4) w' K (NoPanic Q))
    (se : ∀ (u0 u1 u2 u3 u4 u5 : Value) w', I6 u0 u1 u2 u3 u4 u5 w' → ∀ K : Act → World → Prop, (∀ w2, IE u0 u1 u2 u3 u4 u5 w2 → K ((((((A5.put o4.dst u0).put o7.dst u1).put o8.dst u2).put o9.dst u3).put o10.dst u4).put o11.dst u5) w2) → o12.wp P ((((((A5.put o4.dst u0).put o7.dst u1).put o8.dst u2).put o9.dst u3).put o10.dst u4).put o11.dst u5) w' K (NoPanic Q))
    (h : ∀ (u0 u1 u2 u3 u4 u5 : Value) w', IE u0 u1 u2 u3 u4 u5 w' → Q .normal ((((((A5.put o4.dst u0).put o7.dst u1).put o8.dst u2).put o9.dst u3).put o10.dst u4).put o11.dst u5) w') :
    (Code.region id #[o0, o1, o2, o3, o4, o5, o6, o7, o8, o9, o10, o11, o12] true).wp P Q a w := by
  subst p0 p1 p2 p3 p5 p6
  obtain ⟨z0, z1, z2, z3, z4, z5, z6⟩ := hIT
  refine wp_region_noPanic ?_
  refine wp_region_any hm ?_
  refine AnyL.any (S := fun d w' => d.getD 12 true = false → T w') _ _ _ _ ?_
  show AnyL P .any #[o0, o1, o2, o3, o4, o5, o6, o7, o8, o9, o10, o11, o12] (NoPanic Q) _ 13 #[false, false, false, false, false, false, false, false, false, false, false, false, false] a w.drew
  have hSi : ∀ i, i ≠ 12 → ∀ (d : Array Bool) (w' : World), ((d.setIfInBounds i true).getD 12 true = false → T w') ↔ (d.getD 12 true = false → T w') := by
    intro i h4 d w'
    rw [getD_set_ne true h4]
  refine AnyL.take (i := 0) (t := 12) (oi := o0) (ot := o12) (T := T) rfl rfl (by decide) hs f0 r0 e0 (fun _ _ _ h => h) (fun d w' h9 hd => h9 hd) (hSi 0 (by decide)) hy0 rfl (fun _ => z0 _ i0) ?_
  refine AnyL.take (i := 1) (t := 12) (oi := o1) (ot := o12) (T := T) rfl rfl (by decide) hs f1 r1 e1 (fun _ _ _ h => h) (fun d w' h9 hd => h9 hd) (hSi 1 (by decide)) hy1 rfl (fun _ => z0 _ i0) ?_
  refine AnyL.take (i := 2) (t := 12) (oi := o2) (ot := o12) (T := T) rfl rfl (by decide) hs f2 r2 e2 (fun _ _ _ h => h) (fun d w' h9 hd => h9 hd) (hSi 2 (by decide)) hy2 rfl (fun _ => z0 _ i0) ?_
  refine AnyL.take (i := 3) (t := 12) (oi := o3) (ot := o12) (T := T) rfl rfl (by decide) hs f3 r3 e3 (fun _ _ _ h => h) (fun d w' h9 hd => h9 hd) (hSi 3 (by decide)) hy3 rfl (fun _ => z0 _ i0) ?_
  refine AnyL.take (i := 5) (t := 12) (oi := o5) (ot := o12) (T := T) rfl rfl (by decide) hs f5 r5 e5 (fun _ _ _ h => h) (fun d w' h9 hd => h9 hd) (hSi 5 (by decide)) hy5 rfl (fun _ => z0 _ i0) ?_
  refine AnyL.take (i := 6) (t := 12) (oi := o6) (ot := o12) (T := T) rfl rfl (by decide) hs f6 r6 e6 (fun _ _ _ h => h) (fun d w' h9 hd => h9 hd) (hSi 6 (by decide)) hy6 rfl (fun _ => z0 _ i0) ?_
  refine AnyL.forced q4 rfl g4 (fun K hK => s0  w.drew i0 K (fun u0 w1 i1 => hK _ _ (fun _ => z1 u0 w1 i1) ?_))
  refine AnyL.forced q7 rfl g7 (fun K hK => s1 u0 w1 i1 K (fun u1 w2 i2 => hK _ _ (fun _ => z2 u0 u1 w2 i2) ?_))
  refine AnyL.forced q8 rfl g8 (fun K hK => s2 u0 u1 w2 i2 K (fun u2 w3 i3 => hK _ _ (fun _ => z3 u0 u1 u2 w3 i3) ?_))
  refine AnyL.forced q9 rfl g9 (fun K hK => s3 u0 u1 u2 w3 i3 K (fun u3 w4 i4 => hK _ _ (fun _ => z4 u0 u1 u2 u3 w4 i4) ?_))
  refine AnyL.forced q10 rfl g10 (fun K hK => s4 u0 u1 u2 u3 w4 i4 K (fun u4 w5 i5 => hK _ _ (fun _ => z5 u0 u1 u2 u3 u4 w5 i5) ?_))
  refine AnyL.forced q11 rfl g11 (fun K hK => s5 u0 u1 u2 u3 u4 w5 i5 K (fun u5 w6 i6 => hK _ _ (fun _ => z6 u0 u1 u2 u3 u4 u5 w6 i6) ?_))
  refine AnyL.forced q12 rfl g12 (fun K hK => se u0 u1 u2 u3 u4 u5 w6 i6 K (fun we ie => hK _ _ (fun h9 => (by cases h9)) ?_))
  exact ⟨rr, NoPanic.normal (h u0 u1 u2 u3 u4 u5 we ie)⟩

end
end Go.Proofs.YtjafmnemobcipaaDoor
namespace Go.Proofs.YtjafmnemobcipaaDoor
open Go.RowKit Go.BigFrame
set_option linter.unusedVariables false
set_option linter.unusedSimpArgs false

def kStepO : Kind2 (Nat × List (List Nat)) := ⟨43, fun w s x y => s.1 < 65536 ∧ x = .int .u16 (s.1 : Int) ∧ (∀ d ∈ s.2, Dg d) ∧ ∃ lo, w.ownsRow lo 29 32 y s.2.length (flatD s.2), fun s x y => y.ownBlock.toList, fun h k hn => ⟨h.1, h.2.1, h.2.2.1, by obtain ⟨lo, h9⟩ := h.2.2.2; exact ⟨lo, k.owns h9 (fun g hg => hn g (by simp [hg]))⟩⟩⟩
/-- Steps whose lists of digests lie apart from one another. -/
def Dist (ts : List ((Nat × List (List Nat)) × Value × Value)) : Prop := ts.Pairwise (fun t t' => ∀ b ∈ t'.2.2.ownBlock.toList, b ∉ t.2.2.ownBlock.toList)
/-- A path that twin has made: all of it in memory of its own. -/
structure TwP (w w' : World) (sv pv : Value) (ss : List (Nat × List (List Nat))) (ps : List (List Nat × List Nat)) : Prop where
  ex : ∃ (M : Nat) (ts : List ((Nat × List (List Nat)) × Value × Value)) (us : List ((List Nat × List Nat) × Value × Value)),
    Own2 kStepO (w.heap.size + 3) w' sv ts ∧ ts.map (·.1) = ss ∧ Dist ts ∧ (∀ t ∈ ts, ∀ b ∈ t.2.2.ownBlock.toList, b < M) ∧ Own2 kPair M w' pv us ∧ us.map (·.1) = ps

set_option maxRecDepth 100000 in
set_option maxHeartbeats 4000000 in
theorem htwinP_any (sv pv : Value) (ss : List (Nat × List (List Nat))) (ps : List (List Nat × List Nat)) (w : World) (hs : RdS w sv ss) (hp : RdK w pv ps) (hsl : ss.length ≤ 1048576) (hpl : ps.length ≤ 1048576) (hkl : ∀ s ∈ ss, s.2.length ≤ 1048576) :
    Calls Tryd.prog 10 #[.agg #[sv, pv]] w fun e w' => (∃ sv' pv', e = .returned (.agg #[sv', pv']) ∧ TwP w w' sv' pv' ss ps) ∧ Kept [] w w' := by
  obtain ⟨sa, sn, sc, vs, rfl, s1, s2, s3, s4, s5⟩ := id hs
  obtain ⟨pa, pn, pc, _, _, rfl, p1, _⟩ := id hp
  have HP4 := hide hp.cells.2.2.2
  have S4 := hide s4
  have S5 := hide s5
  have HS1 := hide s1
  have HP1 := hide p1
  have HKL := hide hkl
  have hsn : sn ≤ 1048576 := by omega
  have hpn : pn ≤ 1048576 := by omega
  clear s4 s5 hs hp s1 p1 hsl hpl hkl
  have HK0 := hide ((((Kept.refl [] w).alloc (.cells #[.slice sa sn sc, .slice pa pn pc] 26)).alloc (.cells #[.slice none 0 0, .slice none 0 0] 26)).alloc (.cells #[.slice none 0 0, .slice none 0 0] 26))
  have HG0 := hide (((Kept.refl [] ((w.alloc (.cells #[.slice sa sn sc, .slice pa pn pc] 26)).alloc (.cells #[.slice none 0 0, .slice none 0 0] 26))).alloc (.cells #[.slice none 0 0, .slice none 0 0] 26)).heap (heap_alloc2_old w (.cells #[.slice sa sn sc, .slice pa pn pc] 26) (.cells #[.slice none 0 0, .slice none 0 0] 26)) (by simp))
  have HZ0 := hide (((Kept.refl [] ((w.alloc (.cells #[.slice sa sn sc, .slice pa pn pc] 26)).alloc (.cells #[.slice none 0 0, .slice none 0 0] 26))).alloc (.cells #[.slice none 0 0, .slice none 0 0] 26)).heap (heap_alloc2_new w (.cells #[.slice sa sn sc, .slice pa pn pc] 26) (.cells #[.slice none 0 0, .slice none 0 0] 26)) (by simp))
  have HQ0 := hide (alloc3_at w (.cells #[.slice sa sn sc, .slice pa pn pc] 26) (.cells #[.slice none 0 0, .slice none 0 0] 26) (.cells #[.slice none 0 0, .slice none 0 0] 26))
  obtain ⟨W, hW⟩ : ∃ W, ((w.alloc (.cells #[.slice sa sn sc, .slice pa pn pc] 26)).alloc (.cells #[.slice none 0 0, .slice none 0 0] 26)).alloc (.cells #[.slice none 0 0, .slice none 0 0] 26) = W := ⟨_, rfl⟩
  have hsz : w.heap.size + 3 = W.heap.size := by rw [← hW]; simp
  rw [hW] at HK0 HG0 HZ0 HQ0
  have c0 : W.cell? ⟨w.heap.size, 0, none⟩ = some (.slice sa sn sc) := cell_of_row _ _ 0 _ _ _ (unhide HG0)
  go_enter Tryd.func10, Tryd.ntmps10
  go_wp2_with (rw [hW])
  clear hW c0
  obtain ⟨base, hbase⟩ : ∃ base, w.heap.size + 3 = base := ⟨_, rfl⟩
  have HW1 := hide (by omega : base ≤ W.heap.size)
  clear hsz
  go_loopw [11] (fun t11 wr => ∃ (i : Nat) (v : Value) (ts : List ((Nat × List (List Nat)) × Value × Value)), i ≤ sn ∧ t11 = .int .i64 i ∧ ts.length = i ∧ base ≤ wr.heap.size ∧ Hid (ts.map (·.1) = ss.take i) ∧ Hid (Dist ts) ∧ Hid (Own2 kStepO base wr v ts) ∧ Hid (wr.heap[w.heap.size + 1 + 1]? = some (.cells #[v, .slice none 0 0] 26 (0, 0))) ∧ Hid (Kept [] w wr) ∧ Hid (wr.heap[w.heap.size]? = some (.cells #[.slice sa sn sc, .slice pa pn pc] 26 (0, 0))) ∧ Hid (wr.heap[w.heap.size + 1]? = some (.cells #[.slice none 0 0, .slice none 0 0] 26 (0, 0)))) (fun t _ => sn - (intOf t).toNat)
  case atStart => exact ⟨0, _, [], Nat.zero_le _, rfl, rfl, unhide HW1, hide (by simp), hide List.Pairwise.nil, hide (Own2.start kStepO base W), HQ0, HK0, HG0, HZ0⟩
  case round =>
    obtain ⟨i, v, ts, hi, rfl, htl, hbr, HTS, HDI, HO, HQ, HK, HG, HZ⟩ := hrel
    have HTL := hide htl
    clear htl
    have hvb : ∀ b, v.ownBlock = some b → base ≤ b ∧ b < wr.heap.size := fun b hb => (unhide HO).own.lt b hb
    by_cases hlt : i < sn
    · have hlt' : (i : Int) < sn := by omega
      obtain ⟨b, o, rfl, hcell⟩ := unhide S5 (by omega)
      have q1 := (unhide HK).cell (hcell i hlt).1 (by simp)
      have q2 := (unhide HK).cell (hcell i hlt).2 (by simp)
      have HDD0 := hide (unhide S4 i hlt)
      have HNX := hide (by rw [List.take_succ_eq_append_getElem (by rw [unhide HS1]; exact hlt), ← unhide HTS]; rw [List.getD_eq_getElem?_getD, List.getElem?_eq_getElem (by rw [unhide HS1]; exact hlt)]; rfl : ss.take (i + 1) = ts.map (·.1) ++ [ss.getD i (0, [])])
      have hsk := unhide HKL (ss.getD i (0, [])) (by rw [List.getD_eq_getElem?_getD, List.getElem?_eq_getElem (by rw [unhide HS1]; exact hlt)]; exact List.getElem_mem _)
      clear hcell
      generalize ss.getD i (0, []) = s at q1 HDD0 HNX hsk
      generalize vs.getD i undef = vi at q2 HDD0
      obtain ⟨sb, sk⟩ := s
      simp only at q1 HDD0 HNX hsk
      have HSB := hide (unhide HDD0).1
      have HDD := hide (unhide HDD0).2
      obtain ⟨a8, m8, c8, rfl, hm8, _⟩ := id (unhide HDD)
      clear hm8 HDD0
      have kX := (Kept.refl [] wr).alloc (.cells #[.int .u16 sb, .slice a8 m8 c8] 43)
      have HFX := hide (heap_alloc_new wr (.cells #[.int .u16 sb, .slice a8 m8 c8] 43))
      have HKX := hide ((unhide HK).trans kX (by simp))
      have HQX := hide (kX.heap (unhide HQ) (by simp))
      have HGX := hide (kX.heap (unhide HG) (by simp))
      have HZX := hide (kX.heap (unhide HZ) (by simp))
      have HOX := hide ((unhide HO).pass kX (by simp))
      go_wp2_with fail
      obtain ⟨X, hX⟩ : ∃ X, wr.alloc (.cells #[.int .u16 sb, .slice a8 m8 c8] 43) = X := ⟨_, rfl⟩
      rw [hX] at HFX HKX HQX HGX HZX HOX kX ⊢
      have hbX : base ≤ X.heap.size := Nat.le_trans hbr kX.size
      have f0 : X.cell? ⟨wr.heap.size, 0, none⟩ = some (.int .u16 sb) := cell_of_row _ _ 0 _ _ _ (unhide HFX)
      have f1 : X.cell? ⟨wr.heap.size, 1, none⟩ = some (.slice a8 m8 c8) := cell_of_row _ _ 1 _ _ _ (unhide HFX)
      have cq : X.cell? ⟨w.heap.size + 1 + 1, 0, none⟩ = some v := cell_of_row _ _ 0 _ _ _ (unhide HQX)
      have hXs := lt_of_block (unhide HFX)
      clear hX kX q1 q2
      refine wp_tw13 (by kernel_rfl) (by kernel_rfl) (by kernel_rfl) (by kernel_rfl) (by kernel_rfl) (by kernel_rfl) (by kernel_rfl) (by kernel_rfl) (by kernel_rfl) (by kernel_rfl) (by kernel_rfl) (by kernel_rfl) (by kernel_rfl) (by kernel_rfl) (by kernel_rfl) (by kernel_rfl) (by kernel_rfl) (by kernel_rfl) (by kernel_rfl) (by kernel_rfl) (by kernel_rfl) rfl (by kernel_rfl) rfl (by kernel_rfl) rfl (by kernel_rfl) rfl (by kernel_rfl) rfl (by kernel_rfl) rfl (by kernel_rfl) rfl (by kernel_rfl)
        (.pointer (some ⟨w.heap.size + 1 + 1, 0, none⟩)) v (.pointer (some ⟨wr.heap.size, 0, none⟩)) (.int .u16 sb) (.pointer (some ⟨wr.heap.size, 1, none⟩)) (.slice a8 m8 c8) _ _ _ _ _ _
        (fun w' => Kept v.ownBlock.toList X w')
        (fun w' => Kept [] X w')
        (fun u0 w' => (∃ g, u0 = .slice (some ⟨g, 0, none⟩) 0 0) ∧ w'.ownsRow X.heap.size 29 32 u0 ([] : List (List Nat)).length (flatD []) ∧ Kept [] X w')
        (fun u0 u1 w' => ((∃ aa nn cc, u1 = .slice aa nn cc) ∧ (∃ lo, w'.ownsRow lo 29 32 u1 sk.length (flatD sk)) ∧ (∀ b ∈ u1.ownBlock.toList, X.heap.size ≤ b ∧ b < w'.heap.size)) ∧ Kept [] X w')
        (fun u0 u1 u2 w' => u2 = .agg #[.int .u16 (sb : Int), u1] ∧ ((∃ aa nn cc, u1 = .slice aa nn cc) ∧ (∃ lo, w'.ownsRow lo 29 32 u1 sk.length (flatD sk)) ∧ (∀ b ∈ u1.ownBlock.toList, X.heap.size ≤ b ∧ b < w'.heap.size)) ∧ Kept [] X w')
        (fun u0 u1 u2 u3 w' => (∃ H, u3 = .slice (some ⟨H, 0, none⟩) 1 1 ∧ w'.heap[H]? = some (.cells #[.int .u16 (sb : Int), u1] 43 (0, 0))) ∧ ((∃ aa nn cc, u1 = .slice aa nn cc) ∧ (∃ lo, w'.ownsRow lo 29 32 u1 sk.length (flatD sk)) ∧ (∀ b ∈ u1.ownBlock.toList, X.heap.size ≤ b ∧ b < w'.heap.size)) ∧ Kept [] X w')
        (fun u0 u1 u2 u3 u4 w' => ((∃ g cap, u4 = .slice (some ⟨g, 0, none⟩) (ts.length + 1) cap) ∧ ∀ b ∈ u1.ownBlock.toList, X.heap.size ≤ b) ∧ Own2 kStepO base w' u4 (ts ++ [((sb, sk), .int .u16 (sb : Int), u1)]) ∧ Kept v.ownBlock.toList X w')
        (fun u0 u1 u2 u3 u4 u5 w' => u5 = .pointer (some ⟨w.heap.size + 1 + 1, 0, none⟩) ∧ ((∃ g cap, u4 = .slice (some ⟨g, 0, none⟩) (ts.length + 1) cap) ∧ ∀ b ∈ u1.ownBlock.toList, X.heap.size ≤ b) ∧ Own2 kStepO base w' u4 (ts ++ [((sb, sk), .int .u16 (sb : Int), u1)]) ∧ Kept v.ownBlock.toList X w')
        (fun u0 u1 u2 u3 u4 u5 w' => ((∃ g cap, u4 = .slice (some ⟨g, 0, none⟩) (ts.length + 1) cap) ∧ ∀ b ∈ u1.ownBlock.toList, X.heap.size ≤ b) ∧ Own2 kStepO base w' u4 (ts ++ [((sb, sk), .int .u16 (sb : Int), u1)]) ∧ w'.heap[w.heap.size + 1 + 1]? = some (.cells #[u4, .slice none 0 0] 26 (0, 0)) ∧ Kept ((w.heap.size + 1 + 1) :: v.ownBlock.toList) X w')
        (by simp only [Act.put, List.setIfInBounds_toArray, List.set_cons_zero, List.set_cons_succ]; rfl) (by exact Or.inl ⟨by rfl, fun W' hW' => by go_simp⟩)
        (by simp only [Act.put, List.setIfInBounds_toArray, List.set_cons_zero, List.set_cons_succ]; rfl) (by exact Or.inl ⟨by rfl, fun W' hW' => by have h9 := hW'.cell cq (by intro hm; simp only [Option.mem_toList] at hm; have := hvb _ hm; omega); go_simp⟩)
        (by simp only [Act.put, List.setIfInBounds_toArray, List.set_cons_zero, List.set_cons_succ]; rfl) (by exact Or.inl ⟨by rfl, fun W' hW' => by go_simp⟩)
        (by simp only [Act.put, List.setIfInBounds_toArray, List.set_cons_zero, List.set_cons_succ]; rfl) (by exact Or.inl ⟨by rfl, fun W' hW' => by have h9 := hW'.cell f0 (by intro hm; simp only [Option.mem_toList] at hm; have := hvb _ hm; omega); go_simp⟩)
        (by simp only [Act.put, List.setIfInBounds_toArray, List.set_cons_zero, List.set_cons_succ]; rfl) (by exact Or.inl ⟨by rfl, fun W' hW' => by go_simp⟩)
        (by simp only [Act.put, List.setIfInBounds_toArray, List.set_cons_zero, List.set_cons_succ]; rfl) (by exact Or.inl ⟨by rfl, fun W' hW' => by have h9 := hW'.cell f1 (by intro hm; simp only [Option.mem_toList] at hm; have := hvb _ hm; omega); go_simp⟩)
        (Kept.refl [] X).drew
        ⟨fun w' h => h.mono (by simp), fun u0 w' h => h.2.2.mono (by simp), fun u0 u1 w' h => h.2.mono (by simp), fun u0 u1 u2 w' h => h.2.2.mono (by simp), fun u0 u1 u2 u3 w' h => h.2.2.mono (by simp), fun u0 u1 u2 u3 u4 w' h => h.2.2, fun u0 u1 u2 u3 u4 u5 w' h => h.2.2.2⟩
        (by intro w' i K hK; unfold Oper.wp execOp; go_simp; exact hK _ _ ⟨⟨_, rfl⟩, World.ownsRow_made (base := X.heap.size) (e := 29) (size := 32) w' #[] 0 i.size (by unfold maxLen; omega) (by simp), i.alloc _⟩)
        (by
          rintro u0 w' ⟨⟨g, rfl⟩, ho, i⟩ K hK
          obtain ⟨ao1, cap1, w1, hrun, h2, h3⟩ := appendD w' X.heap.size (.slice (some ⟨g, 0, none⟩) 0 0) [] sk a8 m8 c8 ho ((unhide HDD).old ((unhide HKX).trans i (by simp))) (by simp; omega) i.size
          have hg9 := ho.lt g rfl
          refine wp_append rfl rfl rfl rfl hrun (hK _ _ ⟨⟨⟨_, _, _, rfl⟩, ?_, ?_⟩, i.grown h3 (by intro k hk; right; simp only [Value.ownBlock, Option.some.injEq] at hk; subst hk; exact hg9.1)⟩)
          · simp only [List.nil_append, List.length_nil, Nat.zero_add] at h2 ⊢
            exact ⟨_, h2⟩
          · intro b hb
            exact h2.lt b (by simpa using hb))
        (by rintro u0 u1 w' ⟨⟨⟨aa, nn, cc, rfl⟩, h1, h2⟩, i⟩ K hK; unfold Oper.wp execOp; go_simp; exact hK _ _ ⟨rfl, ⟨⟨_, _, _, rfl⟩, h1, h2⟩, i⟩)
        (by rintro u0 u1 u2 w' ⟨rfl, ⟨⟨aa, nn, cc, rfl⟩, h1, h2⟩, i⟩ K hK; unfold Oper.wp execOp; go_simp; exact hK _ _ ⟨⟨_, rfl, heap_alloc_new _ _⟩, ⟨⟨_, _, _, rfl⟩, (by obtain ⟨lo, h9⟩ := h1; exact ⟨lo, ((Kept.refl [] w').alloc _).owns h9 (by simp)⟩), fun b hb => ⟨(h2 b hb).1, by have := (h2 b hb).2; simp; omega⟩⟩, i.alloc _⟩)
        (by
          rintro u0 u1 u2 u3 w' ⟨⟨H, rfl, hH⟩, ⟨⟨aa, nn, cc, rfl⟩, h1, h2⟩, i⟩ K hK
          have hO := (unhide HOX).pass i (by simp)
          obtain ⟨g, cap, w1, hrun, h3, h4, h5⟩ := pushS w' base v ts _ _ H hO.own hH rfl rfl (by have := unhide HTL; omega) (Nat.le_trans hbX i.size)
          exact wp_append rfl rfl rfl rfl hrun (hK _ _ ⟨⟨⟨_, _, rfl⟩, fun b hb => (h2 b hb).1⟩, hO.push (a := (sb, sk)) (x := .int .u16 (sb : Int)) (y := .slice aa nn cc) ⟨unhide HSB, rfl, fun d hd => (unhide HDD).dg hd, h1⟩ (fun b hb => ⟨fun e => by have := hvb b e; have := (h2 b hb).1; omega, by have := (h2 b hb).1; omega, (h2 b hb).2⟩) h3 h4 h5, (i.mono (by simp)).grown h4 (by intro k hk; left; simp [hk])⟩))
        (by rintro u0 u1 u2 u3 u4 w' ⟨⟨⟨g, cap, rfl⟩, hbn⟩, h1, i⟩ K hK; unfold Oper.wp execOp; go_simp; exact hK _ _ ⟨rfl, ⟨⟨_, _, rfl⟩, hbn⟩, h1, i⟩)
        (by
          rintro u0 u1 u2 u3 u4 u5 w' ⟨rfl, ⟨⟨g, cap, rfl⟩, hbn⟩, h1, i⟩ K hK
          have hq := i.heap (unhide HQX) (by intro hm; simp only [Option.mem_toList] at hm; have := hvb _ hm; omega)
          have cq9 := cell_of_row _ _ 0 _ _ _ hq
          have fz9 : w'.frozen? ⟨w.heap.size + 1 + 1, 0, none⟩ = false := by simp [World.frozen?, hq]
          have hset := heap_setCell_same w' (w.heap.size + 1 + 1) 0 _ 26 (.slice (some ⟨g, 0, none⟩) (ts.length + 1) cap) hq
          have kS := (Kept.refl [w.heap.size + 1 + 1] w').setCell (p := ⟨w.heap.size + 1 + 1, 0, none⟩) (Or.inl (by simp)) (.slice (some ⟨g, 0, none⟩) (ts.length + 1) cap)
          unfold Oper.wp execOp
          go_simp
          exact hK _ ⟨⟨⟨_, _, rfl⟩, hbn⟩, h1.pass kS (by simp; omega), hset, (i.mono (by simp; intro x hx; right; exact hx)).setCell (Or.inl (by simp)) _⟩)
        ?_
      rintro u0 u1 u2 u3 u4 u5 Y ⟨⟨⟨g, cap, rfl⟩, hbn⟩, hO, hq, kY⟩
      have HDY := hide (List.pairwise_append.2 ⟨unhide HDI, List.pairwise_singleton _ _, fun t ht t' ht' b hb hb' => by
        rw [List.mem_singleton] at ht'; subst ht'
        have h9 := hbn b hb; have h8 := ((unhide HOX).apart t ht b hb').2.2; omega⟩ : Dist (ts ++ [((sb, sk), Value.int .u16 (sb : Int), u1)]))
      clear hbn
      simp only [Act.put, List.setIfInBounds_toArray, List.set_cons_zero, List.set_cons_succ]
      have HOY := hide hO
      have HQY := hide hq
      have hny : ∀ x, x < base → x ≠ w.heap.size + 1 + 1 → x ∉ ((w.heap.size + 1 + 1) :: v.ownBlock.toList) := fun x h1 h2 hm => by
        rcases List.mem_cons.1 hm with h | h
        · exact h2 h
        · simp only [Option.mem_toList] at h; have := hvb _ h; omega
      have HKY := hide ((unhide HKX).trans kY (by intro x hx; right; rcases List.mem_cons.1 hx with h | h; omega; simp only [Option.mem_toList] at h; have := hvb _ h; omega))
      have HGY := hide (kY.heap (unhide HGX) (hny _ (by omega) (by omega)))
      have HZY := hide (kY.heap (unhide HZX) (hny _ (by omega) (by omega)))
      have hbY : base ≤ Y.heap.size := Nat.le_trans hbX kY.size
      have htl2 : (ts ++ [((sb, sk), Value.int .u16 (sb : Int), u1)]).length = i + 1 := by simp [unhide HTL]
      have HTY := hide (by rw [unhide HNX]; simp : (ts ++ [((sb, sk), Value.int .u16 (sb : Int), u1)]).map (·.1) = ss.take (i + 1))
      clear hO hq kY f0 f1 cq hny
      go_wp2
      go_roundw
      case rel => exact ⟨i + 1, _, _, hlt, by go_num, htl2, hbY, HTY, HDY, HOY, HQY, HKY, HGY, HZY⟩
      case measure => simp [intOf]; omega
    · have hlt' : ¬ (i : Int) < sn := by omega
      have HSS := hide (by have h9 := unhide HTS; rw [List.take_of_length_le (by rw [unhide HS1]; omega)] at h9; exact h9 : ts.map (·.1) = ss)
      have HO1 := HO
      have HD1 := HDI
      have hb1 := hbase
      obtain ⟨sv', hsv⟩ : ∃ sv', sv' = v := ⟨_, rfl⟩
      subst hsv
      obtain ⟨ts1, hts1⟩ : ∃ ts1, ts1 = ts := ⟨_, rfl⟩
      subst hts1
      obtain ⟨wm, hwm⟩ : ∃ wm, wm = wr := ⟨_, rfl⟩
      subst hwm
      obtain ⟨base1, hbs1⟩ : ∃ base1, base1 = base := ⟨_, rfl⟩
      subst hbs1
      have c1 : wm.cell? ⟨w.heap.size, 1, none⟩ = some (.slice pa pn pc) := cell_of_row _ _ 1 _ _ _ (unhide HG)
      go_wp2_with fail
      clear c1
      obtain ⟨base, hbase2⟩ : ∃ base, wm.heap.size = base := ⟨_, rfl⟩
      have hbb : w.heap.size + 3 ≤ base := by omega
      go_loopw [31] (fun t31 wr => ∃ (i : Nat) (v : Value) (ts : List ((List Nat × List Nat) × Value × Value)), i ≤ pn ∧ t31 = .int .i64 i ∧ ts.length = i ∧ base ≤ wr.heap.size ∧ Hid (ts.map (·.1) = ps.take i) ∧ Hid (Own2 kPair base wr v ts) ∧ Hid (wr.heap[w.heap.size + 1 + 1]? = some (.cells #[sv', v] 26 (0, 0))) ∧ Hid (Kept [w.heap.size + 1 + 1] wm wr) ∧ Hid (Kept [] w wr) ∧ Hid (wr.heap[w.heap.size + 1]? = some (.cells #[.slice none 0 0, .slice none 0 0] 26 (0, 0)))) (fun t _ => pn - (intOf t).toNat)
      case atStart => exact ⟨0, _, [], Nat.zero_le _, rfl, rfl, by omega, hide (by simp), hide (Own2.start kPair base wm), HQ, hide (Kept.refl _ _), HK, HZ⟩
      case round =>
        obtain ⟨i, v, ts, hi2, rfl, htl, hbr2, HTS2, HO2, HQ2, HKm, HK2, HZ2⟩ := hrel
        have HTL := hide htl
        clear htl
        have hvb : ∀ b, v.ownBlock = some b → base ≤ b ∧ b < wr.heap.size := fun b hb => (unhide HO2).own.lt b hb
        by_cases hlt2 : i < pn
        · have hlt2' : (i : Int) < pn := by omega
          obtain ⟨b, o, x, y, rfl, d1, d2, r1, r2⟩ := unhide HP4 i hlt2
          have q1 := (unhide HK2).cell d1 (by simp)
          have q2 := (unhide HK2).cell d2 (by simp)
          have HX := hide r1
          have HY := hide r2
          have HNX := hide (by rw [List.take_succ_eq_append_getElem (by rw [unhide HP1]; exact hlt2), ← unhide HTS2]; rw [List.getD_eq_getElem?_getD, List.getElem?_eq_getElem (by rw [unhide HP1]; exact hlt2)]; rfl : ps.take (i + 1) = ts.map (·.1) ++ [ps.getD i ([], [])])
          clear d1 d2 r1 r2
          generalize ps.getD i ([], []) = pi at HX HY HNX
          obtain ⟨pk, pw⟩ := pi
          simp only at HX HY HNX
          obtain ⟨a8, m8, c8, rfl, hm8, _⟩ := id (unhide HX)
          obtain ⟨a9, m9, c9, rfl, hm9, _⟩ := id (unhide HY)
          clear hm8 hm9
          have kX := (Kept.refl [] wr).alloc (.cells #[.slice a8 m8 c8, .slice a9 m9 c9] 64)
          have HFX := hide (heap_alloc_new wr (.cells #[.slice a8 m8 c8, .slice a9 m9 c9] 64))
          have HKX := hide ((unhide HK2).trans kX (by simp))
          have HMX := hide ((unhide HKm).trans kX (by simp))
          have HQX := hide (kX.heap (unhide HQ2) (by simp))
          have HZX := hide (kX.heap (unhide HZ2) (by simp))
          have HOX := hide ((unhide HO2).pass kX (by simp))
          go_wp2_with fail
          obtain ⟨X, hX⟩ : ∃ X, wr.alloc (.cells #[.slice a8 m8 c8, .slice a9 m9 c9] 64) = X := ⟨_, rfl⟩
          rw [hX] at HFX HKX HMX HQX HZX HOX kX ⊢
          have hbX : base ≤ X.heap.size := Nat.le_trans hbr2 kX.size
          have f0 : X.cell? ⟨wr.heap.size, 0, none⟩ = some (.slice a8 m8 c8) := cell_of_row _ _ 0 _ _ _ (unhide HFX)
          have f1 : X.cell? ⟨wr.heap.size, 1, none⟩ = some (.slice a9 m9 c9) := cell_of_row _ _ 1 _ _ _ (unhide HFX)
          have cq : X.cell? ⟨w.heap.size + 1 + 1, 1, none⟩ = some v := cell_of_row _ _ 1 _ _ _ (unhide HQX)
          have hXs := lt_of_block (unhide HFX)
          clear hX kX q1 q2
          refine wp_tw13 (by kernel_rfl) (by kernel_rfl) (by kernel_rfl) (by kernel_rfl) (by kernel_rfl) (by kernel_rfl) (by kernel_rfl) (by kernel_rfl) (by kernel_rfl) (by kernel_rfl) (by kernel_rfl) (by kernel_rfl) (by kernel_rfl) (by kernel_rfl) (by kernel_rfl) (by kernel_rfl) (by kernel_rfl) (by kernel_rfl) (by kernel_rfl) (by kernel_rfl) (by kernel_rfl) rfl (by kernel_rfl) rfl (by kernel_rfl) rfl (by kernel_rfl) rfl (by kernel_rfl) rfl (by kernel_rfl) rfl (by kernel_rfl) rfl (by kernel_rfl)
            (.pointer (some ⟨w.heap.size + 1 + 1, 1, none⟩)) v (.pointer (some ⟨wr.heap.size, 0, none⟩)) (.slice a8 m8 c8) (.pointer (some ⟨wr.heap.size, 1, none⟩)) (.slice a9 m9 c9) _ _ _ _ _ _
            (fun w' => Kept v.ownBlock.toList X w')
            (fun w' => Kept [] X w')
            (fun u0 w' => (∃ aa nn cc, u0 = .slice aa nn cc) ∧ Rd w' u0 pk ∧ (∀ b ∈ eblk u0 pk, X.heap.size ≤ b ∧ b < w'.heap.size) ∧ Kept [] X w')
            (fun u0 u1 w' => (((∃ aa nn cc, u0 = .slice aa nn cc) ∧ ∃ aa nn cc, u1 = .slice aa nn cc) ∧ (Rd w' u0 pk ∧ Rd w' u1 pw) ∧ (∀ b ∈ eblk u0 pk ++ eblk u1 pw, X.heap.size ≤ b ∧ b < w'.heap.size)) ∧ Kept [] X w')
            (fun u0 u1 u2 w' => u2 = .agg #[u0, u1] ∧ (((∃ aa nn cc, u0 = .slice aa nn cc) ∧ ∃ aa nn cc, u1 = .slice aa nn cc) ∧ (Rd w' u0 pk ∧ Rd w' u1 pw) ∧ (∀ b ∈ eblk u0 pk ++ eblk u1 pw, X.heap.size ≤ b ∧ b < w'.heap.size)) ∧ Kept [] X w')
            (fun u0 u1 u2 u3 w' => (∃ H, u3 = .slice (some ⟨H, 0, none⟩) 1 1 ∧ w'.heap[H]? = some (.cells #[u0, u1] 64 (0, 0))) ∧ (((∃ aa nn cc, u0 = .slice aa nn cc) ∧ ∃ aa nn cc, u1 = .slice aa nn cc) ∧ (Rd w' u0 pk ∧ Rd w' u1 pw) ∧ (∀ b ∈ eblk u0 pk ++ eblk u1 pw, X.heap.size ≤ b ∧ b < w'.heap.size)) ∧ Kept [] X w')
            (fun u0 u1 u2 u3 u4 w' => (∃ g cap, u4 = .slice (some ⟨g, 0, none⟩) (ts.length + 1) cap) ∧ Own2 kPair base w' u4 (ts ++ [((pk, pw), u0, u1)]) ∧ Kept v.ownBlock.toList X w')
            (fun u0 u1 u2 u3 u4 u5 w' => u5 = .pointer (some ⟨w.heap.size + 1 + 1, 1, none⟩) ∧ (∃ g cap, u4 = .slice (some ⟨g, 0, none⟩) (ts.length + 1) cap) ∧ Own2 kPair base w' u4 (ts ++ [((pk, pw), u0, u1)]) ∧ Kept v.ownBlock.toList X w')
            (fun u0 u1 u2 u3 u4 u5 w' => (∃ g cap, u4 = .slice (some ⟨g, 0, none⟩) (ts.length + 1) cap) ∧ Own2 kPair base w' u4 (ts ++ [((pk, pw), u0, u1)]) ∧ w'.heap[w.heap.size + 1 + 1]? = some (.cells #[sv', u4] 26 (0, 0)) ∧ Kept ((w.heap.size + 1 + 1) :: v.ownBlock.toList) X w')
            (by simp only [Act.put, List.setIfInBounds_toArray, List.set_cons_zero, List.set_cons_succ]; rfl) (by exact Or.inl ⟨by rfl, fun W' hW' => by go_simp⟩)
            (by simp only [Act.put, List.setIfInBounds_toArray, List.set_cons_zero, List.set_cons_succ]; rfl) (by exact Or.inl ⟨by rfl, fun W' hW' => by have h9 := hW'.cell cq (by intro hm; simp only [Option.mem_toList] at hm; have := hvb _ hm; omega); go_simp⟩)
            (by simp only [Act.put, List.setIfInBounds_toArray, List.set_cons_zero, List.set_cons_succ]; rfl) (by exact Or.inl ⟨by rfl, fun W' hW' => by go_simp⟩)
            (by simp only [Act.put, List.setIfInBounds_toArray, List.set_cons_zero, List.set_cons_succ]; rfl) (by exact Or.inl ⟨by rfl, fun W' hW' => by have h9 := hW'.cell f0 (by intro hm; simp only [Option.mem_toList] at hm; have := hvb _ hm; omega); go_simp⟩)
            (by simp only [Act.put, List.setIfInBounds_toArray, List.set_cons_zero, List.set_cons_succ]; rfl) (by exact Or.inl ⟨by rfl, fun W' hW' => by go_simp⟩)
            (by simp only [Act.put, List.setIfInBounds_toArray, List.set_cons_zero, List.set_cons_succ]; rfl) (by exact Or.inl ⟨by rfl, fun W' hW' => by have h9 := hW'.cell f1 (by intro hm; simp only [Option.mem_toList] at hm; have := hvb _ hm; omega); go_simp⟩)
            (Kept.refl [] X).drew
            ⟨fun w' h => h.mono (by simp), fun u0 w' h => h.2.2.2.mono (by simp), fun u0 u1 w' h => h.2.mono (by simp), fun u0 u1 u2 w' h => h.2.2.mono (by simp), fun u0 u1 u2 u3 w' h => h.2.2.mono (by simp), fun u0 u1 u2 u3 u4 w' h => h.2.2, fun u0 u1 u2 u3 u4 u5 w' h => h.2.2.2⟩
            (by
              intro w' i K hK
              refine wp_callN rfl Tryd.call24 [.slice a8 m8 c8] rfl (twin_any _ pk w' ((unhide HX).old ((unhide HKX).trans i (by simp)) (by simp))) ?_
              rintro e w2 ⟨rfl, kv, hrow⟩
              have hR := rd_fresh hrow (unhide HX).byte (by obtain ⟨_, _, _, e9, h9, _, h8, _⟩ := id (unhide HX); cases e9; omega)
              have hs2 := lt_of_block hrow
              exact ⟨_, rfl, hK _ _ ⟨⟨_, _, _, rfl⟩, hR, fun b hb => (by unfold eblk at hb; split at hb; simp at hb; simp only [blk, List.mem_singleton] at hb; subst hb; exact ⟨i.size, hs2⟩), i.trans kv (by simp)⟩⟩)
            (by
              rintro u0 w' ⟨⟨aa, nn, cc, rfl⟩, h1, h2, i⟩ K hK
              refine wp_callN rfl Tryd.call24 [.slice a9 m9 c9] rfl (twin_any _ pw w' ((unhide HY).old ((unhide HKX).trans i (by simp)) (by simp))) ?_
              rintro e w2 ⟨rfl, kv, hrow⟩
              have hR := rd_fresh hrow (unhide HY).byte (by obtain ⟨_, _, _, e9, h9, _, h8, _⟩ := id (unhide HY); cases e9; omega)
              have hs2 := lt_of_block hrow
              refine ⟨_, rfl, hK _ _ ⟨⟨⟨⟨_, _, _, rfl⟩, ⟨_, _, _, rfl⟩⟩, ⟨h1.old kv (by simp), hR⟩, fun b hb => ?_⟩, i.trans kv (by simp)⟩⟩
              rcases List.mem_append.1 hb with hb | hb
              · exact ⟨(h2 b hb).1, by have := (h2 b hb).2; have := kv.size; omega⟩
              · unfold eblk at hb; split at hb; simp at hb; simp only [blk, List.mem_singleton] at hb; subst hb; exact ⟨i.size, hs2⟩)
            (by
              rintro u0 u1 w' ⟨⟨⟨⟨aa, nn, cc, rfl⟩, ⟨ab, nb, cb, rfl⟩⟩, h1, h2⟩, i⟩ K hK
              unfold Oper.wp execOp
              go_simp
              exact hK _ _ ⟨rfl, ⟨⟨⟨_, _, _, rfl⟩, ⟨_, _, _, rfl⟩⟩, h1, h2⟩, i⟩)
            (by
              rintro u0 u1 u2 w' ⟨rfl, ⟨⟨⟨aa, nn, cc, rfl⟩, ⟨ab, nb, cb, rfl⟩⟩, h1, h2⟩, i⟩ K hK
              unfold Oper.wp execOp
              go_simp
              exact hK _ _ ⟨⟨_, rfl, heap_alloc_new _ _⟩, ⟨⟨⟨_, _, _, rfl⟩, ⟨_, _, _, rfl⟩⟩, ⟨h1.1.old ((Kept.refl [] w').alloc _) (by simp), h1.2.old ((Kept.refl [] w').alloc _) (by simp)⟩, fun b hb => ⟨(h2 b hb).1, by have := (h2 b hb).2; simp; omega⟩⟩, i.alloc _⟩)
            (by
              rintro u0 u1 u2 u3 w' ⟨⟨H, rfl, hH⟩, ⟨⟨⟨aa, nn, cc, rfl⟩, ⟨ab, nb, cb, rfl⟩⟩, h1, h2⟩, i⟩ K hK
              have hO := (unhide HOX).pass i (by simp)
              obtain ⟨g, cap, w1, hrun, h3, h4, h5⟩ := pushP w' base v ts _ _ H hO.own hH rfl rfl (by have := unhide HTL; omega) (Nat.le_trans hbX i.size)
              exact wp_append rfl rfl rfl rfl hrun (hK _ _ ⟨⟨_, _, rfl⟩, hO.push (a := (pk, pw)) (x := .slice aa nn cc) (y := .slice ab nb cb) h1 (fun b hb => ⟨fun e => by have := hvb b e; have := (h2 b hb).1; omega, by have := (h2 b hb).1; omega, (h2 b hb).2⟩) h3 h4 h5, (i.mono (by simp)).grown h4 (by intro k hk; left; simp [hk])⟩))
            (by rintro u0 u1 u2 u3 u4 w' ⟨⟨g, cap, rfl⟩, h1, i⟩ K hK; unfold Oper.wp execOp; go_simp; exact hK _ _ ⟨rfl, ⟨_, _, rfl⟩, h1, i⟩)
            (by
              rintro u0 u1 u2 u3 u4 u5 w' ⟨rfl, ⟨g, cap, rfl⟩, h1, i⟩ K hK
              have hq := i.heap (unhide HQX) (by intro hm; simp only [Option.mem_toList] at hm; have := hvb _ hm; omega)
              have cq9 := cell_of_row _ _ 1 _ _ _ hq
              have fz9 : w'.frozen? ⟨w.heap.size + 1 + 1, 1, none⟩ = false := by simp [World.frozen?, hq]
              have hset := heap_setCell_same w' (w.heap.size + 1 + 1) 1 _ 26 (.slice (some ⟨g, 0, none⟩) (ts.length + 1) cap) hq
              have kS := (Kept.refl [w.heap.size + 1 + 1] w').setCell (p := ⟨w.heap.size + 1 + 1, 1, none⟩) (Or.inl (by simp)) (.slice (some ⟨g, 0, none⟩) (ts.length + 1) cap)
              unfold Oper.wp execOp
              go_simp
              exact hK _ ⟨⟨_, _, rfl⟩, h1.pass kS (by simp; omega), hset, (i.mono (by simp; intro x hx; right; exact hx)).setCell (Or.inl (by simp)) _⟩)
            ?_
          rintro u0 u1 u2 u3 u4 u5 Y ⟨⟨g, cap, rfl⟩, hO, hq, kY⟩
          simp only [Act.put, List.setIfInBounds_toArray, List.set_cons_zero, List.set_cons_succ]
          have HOY := hide hO
          have HQY := hide hq
          have HKY := hide ((unhide HKX).trans kY (by intro x hx; right; rcases List.mem_cons.1 hx with h | h; omega; simp only [Option.mem_toList] at h; have := hvb _ h; omega))
          have HMY := hide ((unhide HMX).trans kY (by intro x hx; rcases List.mem_cons.1 hx with h | h; left; simp [h]; right; simp only [Option.mem_toList] at h; have := hvb _ h; omega))
          have HZY := hide (kY.heap (unhide HZX) (by intro hm; rcases List.mem_cons.1 hm with h | h; omega; simp only [Option.mem_toList] at h; have := hvb _ h; omega))
          have hbY : base ≤ Y.heap.size := Nat.le_trans hbX kY.size
          have htl2 : (ts ++ [((pk, pw), u0, u1)]).length = i + 1 := by simp [unhide HTL]
          have HTY := hide (by rw [unhide HNX]; simp : (ts ++ [((pk, pw), u0, u1)]).map (·.1) = ps.take (i + 1))
          clear hO hq kY f0 f1 cq
          go_wp2
          go_roundw
          case rel => exact ⟨i + 1, _, _, hlt2, by go_num, htl2, hbY, HTY, HOY, HQY, HMY, HKY, HZY⟩
          case measure => simp [intOf]; omega
        · have hlt2' : ¬ (i : Int) < pn := by omega
          have HPP := hide (by have h9 := unhide HTS2; rw [List.take_of_length_le (by rw [unhide HP1]; omega)] at h9; exact h9 : ts.map (·.1) = ps)
          go_wp2_with (first
            | (refine wpList_load_row rfl 26 _ rfl (w.heap.size + 1 + 1) rfl _ #[sv', v] (0, 0) _ (unhide HQ2) Tryd.underlying26 rfl (by kernel_rfl) ?_)
            | (refine wpList_store_row rfl 26 _ _ rfl (w.heap.size + 1) #[sv', v] rfl rfl _ #[.slice none 0 0, .slice none 0 0] (unhide HZ2) (by kernel_rfl) rfl (by obtain ⟨a1, c1, e1⟩ := owns_form (unhide HO1).own; obtain ⟨a2, c2, e2⟩ := owns_form (unhide HO2).own; subst e1; subst e2; simp [Value.oneCell']) ?_))
          have kF := (Kept.refl [w.heap.size + 1] wr).setRow (g := w.heap.size + 1) (Or.inl (by simp)) #[sv', v]
          refine bodyPost_ret (v := .agg #[sv', v]) ?_ rfl ⟨⟨sv', v, rfl, ⟨⟨base, ts1, ts, (by rw [hb1]; exact ((unhide HO1).pass (unhide HKm) (by simp; omega)).pass kF (by simp; omega)), unhide HSS, unhide HD1, fun t ht b hb => ?_, (unhide HO2).pass kF (by simp; omega), unhide HPP⟩⟩⟩, (unhide HK2).setRow (g := w.heap.size + 1) (Or.inr (by omega)) _⟩
          · exact results_cell_row rfl _ _ (w.heap.size + 1) _ #[sv', v] (0, 0) _ rfl (setRow_heap _ _ _ _ _ _ (unhide HZ2)) Tryd.underlying26 rfl (by kernel_rfl)
          · have h9 := ((unhide HO1).apart t ht b hb).2.2
            omega
end Go.Proofs.YtjafmnemobcipaaDoor
namespace Go.Proofs.YtjafmnemobcipaaDoor
open Go.RowKit Go.BigFrame
set_option linter.unusedVariables false
set_option linter.unusedSimpArgs false

/-- A digest whose first byte is turned. -/
def turn (d : List Nat) (by' : Nat) : List Nat := d.set 0 (d.getD 0 0 ^^^ by')
/-- Steps of which one digest is turned. -/
def turnS (ss : List (Nat × List (List Nat))) (s k by' : Nat) : List (Nat × List (List Nat)) := ss.set s ((ss.getD s (0, [])).1, (ss.getD s (0, [])).2.set k (turn ((ss.getD s (0, [])).2.getD k []) by'))
theorem turn_len (d : List Nat) (b : Nat) : (turn d b).length = d.length := by unfold turn; simp
theorem turn_ne {d : List Nat} {b : Nat} (hd : 0 < d.length) (hb : b ≠ 0) : turn d b ≠ d := by
  intro h
  have h9 : (turn d b).getD 0 0 = d.getD 0 0 := by rw [h]
  unfold turn at h9
  rw [List.getD_eq_getElem?_getD, List.getElem?_set_self hd] at h9
  simp only [Option.getD_some] at h9
  have h8 : (d.getD 0 0 ^^^ b) ^^^ d.getD 0 0 = d.getD 0 0 ^^^ d.getD 0 0 := by rw [h9]
  rw [Nat.xor_self, Nat.xor_comm, ← Nat.xor_assoc, Nat.xor_self, Nat.zero_xor] at h8
  exact hb h8
theorem turn_form {z : Int} {d : List Nat} (b : Nat) (hd : d.length = 32) : formB z (turn d b) = formB z d := by
  unfold formB
  cases hw : widthB z with
  | false => rfl
  | true =>
    have hz := width_le hw
    simp only [Bool.true_and]
    obtain ⟨x, r, rfl⟩ : ∃ x r, d = x :: r := by cases d with
      | nil => simp at hd
      | cons x r => exact ⟨x, r, rfl⟩
    obtain ⟨k, hk⟩ : ∃ k, z.toNat = k + 1 := ⟨z.toNat - 1, by omega⟩
    unfold turn cutL
    rw [hk]
    simp
theorem turnS_len (ss : List (Nat × List (List Nat))) (s k b : Nat) : (turnS ss s k b).length = ss.length := by unfold turnS; simp
theorem turnS_ne {ss : List (Nat × List (List Nat))} {s k b i : Nat} (h : i ≠ s) : (turnS ss s k b).getD i (0, []) = ss.getD i (0, []) := by
  unfold turnS
  rw [List.getD_eq_getElem?_getD, List.getElem?_set_ne (by omega), ← List.getD_eq_getElem?_getD]
theorem turnS_at {ss : List (Nat × List (List Nat))} {s k b : Nat} (h : s < ss.length) : (turnS ss s k b).getD s (0, []) = ((ss.getD s (0, [])).1, (ss.getD s (0, [])).2.set k (turn ((ss.getD s (0, [])).2.getD k []) b)) := by
  unfold turnS
  rw [List.getD_eq_getElem?_getD, List.getElem?_set_self h]
  rfl
theorem turnS_one (ss : List (Nat × List (List Nat))) (s k b i : Nat) : ((turnS ss s k b).getD i (0, [])).1 = (ss.getD i (0, [])).1 ∧ ((turnS ss s k b).getD i (0, [])).2.length = (ss.getD i (0, [])).2.length := by
  by_cases h : i = s
  · subst h
    by_cases h2 : i < ss.length
    · rw [turnS_at h2]; simp
    · unfold turnS; rw [List.set_eq_of_length_le (by omega)]; exact ⟨rfl, rfl⟩
  · rw [turnS_ne h]; exact ⟨rfl, rfl⟩
theorem fits_turn {z : Int} {ks : List Nat} {ss : List (Nat × List (List Nat))} {m s k b : Nat} : ∀ n, fitsB z ks (turnS ss s k b) m n = fitsB z ks ss m n
  | 0 => rfl
  | n + 1 => by rw [fitsB, fitsB, fits_turn n, (turnS_one ss s k b n).1, (turnS_one ss s k b n).2, turnS_len]
theorem prov_turn {z : Int} {ks : List Nat} {ss : List (Nat × List (List Nat))} {ps : List (List Nat × List Nat)} {s k b : Nat} : provB z ks (turnS ss s k b) ps = provB z ks ss ps := by
  unfold provB
  rw [turnS_len, fits_turn, (turnS_one ss s k b (ss.length - 1)).1]
theorem hfE_turn {z : Int} {key : List Nat} {ss : List (Nat × List (List Nat))} {s k b : Nat} (hs : s < ss.length) (hk : k < (ss.getD s (0, [])).2.length) (hd : ((ss.getD s (0, [])).2.getD k []).length = 32) : hfE z key [] (turnS ss s k b) = hfE z key [] ss := by
  have hall : (turnS ss s k b).all (fun s => s.2.all (formB z)) = ss.all (fun s => s.2.all (formB z)) := by
    have h1 : ∀ (l : List (Nat × List (List Nat))), l.all (fun s => s.2.all (formB z)) = true ↔ ∀ i, i < l.length → ∀ j, j < (l.getD i (0, [])).2.length → formB z ((l.getD i (0, [])).2.getD j []) = true := by
      intro l
      rw [List.all_eq_true]
      constructor
      · intro h i hi j hj
        have h9 := List.all_eq_true.1 (h (l.getD i (0, [])) (getD_mem _ _ _ hi)) _ (getD_mem _ j [] hj)
        exact h9
      · intro h x hx
        obtain ⟨i, hi, rfl⟩ := List.getElem_of_mem hx
        rw [List.all_eq_true]
        intro d hd
        obtain ⟨j, hj, rfl⟩ := List.getElem_of_mem hd
        have h9 := h i hi j (by rw [List.getD_eq_getElem?_getD (l := l), List.getElem?_eq_getElem hi]; exact hj)
        rw [List.getD_eq_getElem?_getD (l := l), List.getElem?_eq_getElem hi] at h9
        simp only [Option.getD_some] at h9
        rw [List.getD_eq_getElem?_getD, List.getElem?_eq_getElem hj] at h9
        exact h9
    rw [Bool.eq_iff_iff, h1, h1, turnS_len]
    have key : ∀ i j, i < ss.length → j < (ss.getD i (0, [])).2.length → formB z (((turnS ss s k b).getD i (0, [])).2.getD j []) = formB z ((ss.getD i (0, [])).2.getD j []) := by
      intro i j hi hj
      by_cases he : i = s
      · subst he
        rw [turnS_at hi]
        by_cases hjk : j = k
        · subst hjk
          simp only
          rw [List.getD_eq_getElem?_getD, List.getElem?_set_self hj]
          simp only [Option.getD_some]
          exact turn_form b hd
        · simp only
          rw [List.getD_eq_getElem?_getD, List.getElem?_set_ne (by omega), ← List.getD_eq_getElem?_getD]
      · rw [turnS_ne he]
    constructor
    · intro h i hi j hj
      rw [← key i j hi hj]; exact h i hi j (by rw [(turnS_one ss s k b i).2]; exact hj)
    · intro h i hi j hj
      rw [(turnS_one ss s k b i).2] at hj
      rw [key i j hi hj]; exact h i hi j hj
  unfold hfE
  rw [hall]
theorem rtE_turn {z : Int} {key : List Nat} {ss : List (Nat × List (List Nat))} {ps : List (List Nat × List Nat)} {s k b : Nat} (hs : s < ss.length) (hk : k < (ss.getD s (0, [])).2.length) (hd : ((ss.getD s (0, [])).2.getD k []).length = 32) : rtE z key (turnS ss s k b) ps = rtE z key ss ps := by
  unfold rtE
  rw [hfE_turn hs hk hd, prov_turn]
theorem rtV_turn {z : Int} {key : List Nat} {ss : List (Nat × List (List Nat))} {ps : List (List Nat × List Nat)} {s k b : Nat} (hs : s < ss.length) (hk : k < (ss.getD s (0, [])).2.length) (hd : ((ss.getD s (0, [])).2.getD k []).length = 32) : rtV z key (turnS ss s k b) ps = rtV z key ss ps := by
  unfold rtV
  rw [rtE_turn hs hk hd]
theorem set_ne {α : Type} {l : List α} {k : Nat} {x y : α} (h : k < l.length) (hx : l.getD k y ≠ x) : l ≠ l.set k x := by
  intro he
  have h9 : (l.set k x).getD k y = l.getD k y := by rw [← he]
  rw [List.getD_eq_getElem?_getD, List.getElem?_set_self h] at h9
  simp only [Option.getD_some] at h9
  exact hx h9.symm
/-- A path in which one digest is turned leads elsewhere, or the first unlike inputs clash. -/
theorem turned {z : Int} {key : List Nat} {ss : List (Nat × List (List Nat))} {ps : List (List Nat × List Nat)} {s k b : Nat} (hs : s < ss.length) (hk : k < (ss.getD s (0, [])).2.length) (hb : b ≠ 0) (h : Pth z (keyS z key) ss ps) (g : Pth z (keyS z key) (turnS ss s k b) ps) (he : rooD z key ss ps = rooD z key (turnS ss s k b) ps) :
    clF z (inpA z key ss ps) (inpA z key (turnS ss s k b) ps) = true := by
  have hd := (h.d s hs _ (getD_mem _ k [] hk)).1
  have hne : (ss.getD s (0, [])).2 ≠ ((turnS ss s k b).getD s (0, [])).2 := by
    rw [turnS_at hs]
    exact set_ne hk (fun h9 => turn_ne (by omega) hb h9.symm)
  rw [roo_inp h, roo_inp g] at he
  unfold inpA at he ⊢
  have hfn : footN (turnS ss s k b) ps = footN ss ps := by unfold footN; rw [turnS_len]
  rcases inp_split h g rfl rfl _ _ he with h9 | h9
  · exact h9
  · exfalso
    rcases Nat.lt_or_ge s (footN ss ps) with hl | hl
    · have h8 := h9 s (by omega) (by omega)
      rw [inpD_at _ _ ss _ _ _ hl, inpD_at _ _ (turnS ss s k b) _ _ _ (by rw [hfn]; exact hl)] at h8
      exact hne (stB_inj h g hl (by rw [hfn]; exact hl) (sumD_ok h.w _) (sumD_ok h.w _) h8).2.2
    · have h8 := h9 (footN ss ps) (Nat.le_refl _) (by omega)
      rw [inpD_last] at h8
      rw [← hfn, inpD_last] at h8
      have hp : ¬ 0 < ps.length := by
        intro hp
        unfold footN at hl
        rw [if_pos hp] at hl
        omega
      have hn : footN ss ps = ss.length - 1 := by unfold footN; rw [if_neg hp]
      have hs1 : s = ss.length - 1 := by omega
      unfold lowB at h8
      rw [if_neg hp, if_neg hp, turnS_len, if_neg (by omega), if_neg (by omega), ← hs1] at h8
      have f1 := (h.fin (by omega) (by omega)).2
      have f2 := (g.fin (by omega) (by rw [turnS_len]; omega)).2
      rw [turnS_len] at f2
      rw [← hs1] at f1 f2
      exact hne (branchB_inj (h.b s hs) (g.b s (by rw [turnS_len]; exact hs)) f1 f2 (h.d s hs) (g.d s (by rw [turnS_len]; exact hs)) h8).2
end Go.Proofs.YtjafmnemobcipaaDoor
namespace Go.Proofs.YtjafmnemobcipaaDoor
open Go.RowKit Go.BigFrame
set_option linter.unusedVariables false
set_option linter.unusedSimpArgs false

theorem map_at0 {l : List Nat} (h : 0 < l.length) : (l.map u8)[0]? = some (u8 (l.getD 0 0)) := by
  cases l with
  | nil => simp at h
  | cons a l => rfl
theorem RdD.turn {w : World} {g n cap : Nat} {ds : List (List Nat)} (h : RdD w (.slice (some ⟨g, 0, none⟩) n cap) ds) {k : Nat} (hk : k < n) {x : Nat} (hx : x < 256) :
    RdD (w.setCell ⟨g, k * 32, none⟩ (u8 x)) (.slice (some ⟨g, 0, none⟩) n cap) (ds.set k ((ds.getD k []).set 0 x)) := by
  obtain ⟨ao, len, cap', e, h1, h2, h3, h4, h5⟩ := h
  cases e
  obtain ⟨b', off, e, hc⟩ := h5 (by omega)
  cases e
  have hdk : (ds.getD k []) ∈ ds := getD_mem _ _ _ (by omega)
  have hlen : ∀ i, i < n → (ds.getD i []).length = 32 := fun i hi => (h4 _ (getD_mem _ _ _ (by omega))).1
  refine ⟨_, n, cap, rfl, by rw [List.length_set]; exact h1, h2, h3, ?_, fun _ => ⟨g, 0, rfl, ?_⟩⟩
  · intro d hd
    rcases List.mem_or_eq_of_mem_set hd with hd | rfl
    · exact h4 d hd
    · refine ⟨by rw [List.length_set]; exact (h4 _ hdk).1, fun y hy => ?_⟩
      rcases List.mem_or_eq_of_mem_set hy with hy | rfl
      · exact (h4 _ hdk).2 y hy
      · exact hx
  · intro i hi j v hv
    by_cases hik : i = k
    · subst hik
      have e1 : (ds.set i ((ds.getD i []).set 0 x)).getD i [] = (ds.getD i []).set 0 x := by
        rw [List.getD_eq_getElem?_getD, List.getElem?_set_self (by omega)]; rfl
      rw [e1] at hv
      cases j with
      | zero =>
        rw [List.getElem?_map, List.getElem?_set_self (by rw [hlen i hi]; omega)] at hv
        simp only [Option.map_some, Option.some.injEq] at hv
        subst hv
        have hold := hc i hi 0 (u8 ((ds.getD i []).getD 0 0)) (map_at0 (by rw [hlen i hi]; omega))
        rw [Nat.zero_add, Nat.add_zero] at hold ⊢
        exact World.cell?_setCell_same _ _ _ hold
      | succ j =>
        rw [List.getElem?_map, List.getElem?_set_ne (by omega), ← List.getElem?_map] at hv
        have hold := hc i hi (j + 1) v hv
        rw [World.cell?_setCell_other _ _ _ _ (by intro e; simp at e <;> omega)]
        exact hold
    · have e1 : (ds.set k ((ds.getD k []).set 0 x)).getD i [] = ds.getD i [] := by
        rw [List.getD_eq_getElem?_getD, List.getElem?_set_ne (by omega), ← List.getD_eq_getElem?_getD]
      rw [e1] at hv
      have hj : j < 32 := by
        have h9 := (List.getElem?_eq_some_iff.1 hv).1
        rw [List.length_map, hlen i hi] at h9; exact h9
      rw [World.cell?_setCell_other _ _ _ _ (by intro e; simp at e <;> omega)]
      exact hc i hi j v hv

theorem TwP.pass {w w' w2 : World} {sv pv : Value} {ss : List (Nat × List (List Nat))} {ps : List (List Nat × List Nat)} (h : TwP w w' sv pv ss ps) (k : Kept [] w' w2) : TwP w w2 sv pv ss ps := by
  obtain ⟨M, ts, us, hS, hss, hD, hM, hP, hps⟩ := h.ex
  exact ⟨M, ts, us, hS.pass k (by simp), hss, hD, hM, hP.pass k (by simp), hps⟩

theorem TwP.turn {w w' : World} {sv pv : Value} {ss : List (Nat × List (List Nat))} {ps : List (List Nat × List Nat)} (h : TwP w w' sv pv ss ps) (hK : Kept [] w w') {s k b : Nat} (hs : s < ss.length) (hk : k < (ss.getD s (0, [])).2.length) (hb : b < 256) :
    ∃ (g0 c0 kg kc : Nat) (cur : Array Value), sv = .slice (some ⟨g0, 0, none⟩) ss.length c0 ∧ ss.length ≤ c0 ∧ w'.cell? ⟨g0, s * 2 + 1, none⟩ = some (.slice (some ⟨kg, 0, none⟩) (ss.getD s (0, [])).2.length kc) ∧ w'.heap[kg]? = some (.cells cur 29 (0, 0)) ∧
      w'.cell? ⟨kg, k * 32, none⟩ = some (u8 (((ss.getD s (0, [])).2.getD k []).getD 0 0)) ∧ w.heap.size ≤ g0 ∧ w.heap.size ≤ kg ∧ ((ss.getD s (0, [])).2.getD k []).getD 0 0 < 256 ∧
      RdS (w'.setCell ⟨kg, k * 32, none⟩ (u8 (((ss.getD s (0, [])).2.getD k []).getD 0 0 ^^^ b))) sv (turnS ss s k b) ∧ RdK (w'.setCell ⟨kg, k * 32, none⟩ (u8 (((ss.getD s (0, [])).2.getD k []).getD 0 0 ^^^ b))) pv ps ∧
      Kept [] w (w'.setCell ⟨kg, k * 32, none⟩ (u8 (((ss.getD s (0, [])).2.getD k []).getD 0 0 ^^^ b))) := by
  obtain ⟨M, ts, us, hS, hss, hD, hM, hP, hps⟩ := h.ex
  have hlen : ts.length = ss.length := by rw [← hss]; simp
  have hst : s < ts.length := by omega
  have hget : ∀ i (hi : i < ts.length), ss.getD i (0, []) = ts[i].1 := fun i hi => by
    rw [← hss, List.getD_eq_getElem?_getD, List.getElem?_map, List.getElem?_eq_getElem hi]; rfl
  have hmem : ts[s] ∈ ts := List.getElem_mem hst
  obtain ⟨hb1, hx1, hdg, lo, hown⟩ := hS.ok ts[s] hmem
  rw [← hget s hst] at hb1 hx1 hdg hown
  have hRD := rdd_owns hown hdg
  rcases hown.2 with ⟨e0, e1⟩ | ⟨kg, kc, cur, ey, _, hg, hc1, hc2, hc3, hc4⟩
  · omega
  · rcases hS.own.2 with ⟨e0, e1⟩ | ⟨g0, c0, cur0, ev, hbase, hg0, hd1, hd2, hd3, hd4⟩
    · omega
    · have hkm : kg ∈ ts[s].2.2.ownBlock.toList := by rw [ey]; simp [Value.ownBlock]
      have hap := hS.apart ts[s] hmem kg hkm
      have hne : g0 ≠ kg := fun e => hap.1 (by rw [ev, e]; rfl)
      rw [ey] at hRD
      obtain ⟨d0, hd0⟩ : ∃ d0, ((ss.getD s (0, [])).2.getD k []).getD 0 0 = d0 := ⟨_, rfl⟩
      have hdk := hdg _ (getD_mem (ss.getD s (0, [])).2 k [] hk)
      have hd256 : d0 < 256 := by
        rw [← hd0, List.getD_eq_getElem?_getD, List.getElem?_eq_getElem (by rw [hdk.1]; omega)]
        exact hdk.2 _ (List.getElem_mem _)
      have hx256 : d0 ^^^ b < 256 := Nat.xor_lt_two_pow (n := 8) hd256 hb
      have hcell : w'.cell? ⟨kg, k * 32, none⟩ = some (u8 d0) := by
        obtain ⟨_, _, _, e9, _, _, _, _, h5⟩ := hRD
        cases e9
        obtain ⟨b', off, e9, hc⟩ := h5 (by omega)
        cases e9
        have h9 := hc k hk 0 (u8 d0) (by rw [← hd0]; exact map_at0 (by rw [hdk.1]; omega))
        rw [Nat.zero_add, Nat.add_zero] at h9
        exact h9
      have hT := hRD.turn hk hx256
      rw [hd0]
      obtain ⟨w2, hw2⟩ : ∃ w2, w'.setCell ⟨kg, k * 32, none⟩ (u8 (d0 ^^^ b)) = w2 := ⟨_, rfl⟩
      have kS : Kept [kg] w' w2 := by rw [← hw2]; exact (Kept.refl [kg] w').setCell (p := ⟨kg, k * 32, none⟩) (Or.inl (by simp)) _
      have kW : Kept [] w w2 := by rw [← hw2]; exact hK.setCell (p := ⟨kg, k * 32, none⟩) (Or.inr (by have := hap.2.1; simp; omega)) _
      rw [hw2] at hT
      have hrows : ∀ i (hi : i < ts.length), w'.cell? ⟨g0, i * 2, none⟩ = some (.int .u16 ((ss.getD i (0, [])).1 : Int)) ∧ w'.cell? ⟨g0, i * 2 + 1, none⟩ = some ts[i].2.2 := fun i hi => by
        have h9 := hS.ok ts[i] (List.getElem_mem hi)
        have hx := cells2_get ts i hi
        have q0 := hS.own.cells (g := g0) (by rw [ev]; rfl) (2 * i) _ hx.1
        have q1 := hS.own.cells (g := g0) (by rw [ev]; rfl) (2 * i + 1) _ hx.2
        rw [Addr.add_mid] at q0 q1
        rw [h9.2.1, ← hget i hi] at q0
        rw [show i * 2 = 0 + 2 * i by omega, show 0 + 2 * i + 1 = 0 + (2 * i + 1) by omega]
        exact ⟨q0, q1⟩
      refine ⟨g0, c0, kg, kc, cur, by rw [ev, hlen], by omega, ?_, hg, hcell, by omega, by have := hap.2.1; omega, hd256, ?_, ?_, by rw [hw2]; exact kW⟩
      · rw [(hrows s hst).2, ey]
      · rw [hw2]
        refine ⟨some ⟨g0, 0, none⟩, ss.length, c0, ts.map (·.2.2), by rw [ev, hlen], by rw [turnS_len], by omega, by unfold maxLen at hd2; omega, fun i hi => ?_, fun _ => ⟨g0, 0, rfl, fun i hi => ?_⟩⟩
        · have hit : i < ts.length := by omega
          rw [(turnS_one ss s k b i).1]
          have hv : (ts.map (·.2.2)).getD i undef = ts[i].2.2 := by
            rw [List.getD_eq_getElem?_getD, List.getElem?_map, List.getElem?_eq_getElem hit]; rfl
          rw [hv]
          have hok := hS.ok ts[i] (List.getElem_mem hit)
          refine ⟨by rw [hget i hit]; exact hok.1, ?_⟩
          by_cases his : i = s
          · subst his
            rw [turnS_at hi, ey]
            simp only
            unfold Go.Proofs.YtjafmnemobcipaaDoor.turn
            rw [hd0]
            exact hT
          · rw [turnS_ne his, hget i hit]
            obtain ⟨lo2, ho2⟩ := hok.2.2.2
            have hnk : ∀ g, ts[i].2.2.ownBlock = some g → g ∉ [kg] := fun g hg9 hm => by
              rw [List.mem_singleton] at hm
              subst hm
              rcases Nat.lt_or_gt_of_ne his with hlt | hgt
              · exact (List.pairwise_iff_getElem.1 hD i s hit hst hlt) g hkm (by simp [hg9])
              · exact (List.pairwise_iff_getElem.1 hD s i hst hit hgt) g (by simp [hg9]) hkm
            exact rdd_owns (kS.owns ho2 hnk) hok.2.2.1
        · have hit : i < ts.length := by omega
          obtain ⟨q0, q1⟩ := hrows i hit
          have hv : (ts.map (·.2.2)).getD i undef = ts[i].2.2 := by
            rw [List.getD_eq_getElem?_getD, List.getElem?_map, List.getElem?_eq_getElem hit]; rfl
          rw [hv, (turnS_one ss s k b i).1, Nat.zero_add]
          exact ⟨kS.cell q0 (by simpa using hne), kS.cell q1 (by simpa using hne)⟩
      · rw [hw2]
        have h9 := (hP.pass kS (by simp; exact hM ts[s] hmem kg hkm)).rdK
        rw [hps] at h9
        exact h9
end Go.Proofs.YtjafmnemobcipaaDoor
/-
  Laws for drawn regions, by genreg.py. No program.
-/
namespace Go.Proofs.YtjafmnemobcipaaDoor
open Go Go.RowKit Go.BigFrame
set_option linter.unusedVariables false
set_option linter.unusedSimpArgs false
section
variable {P : Program} {Q : Exit → Act → World → Prop}
theorem wp_tu22 {id : Nat} {o0 o1 o2 o3 o4 o5 o6 o7 o8 o9 o10 o11 o12 o13 o14 o15 o16 o17 o18 o19 o20 o21 : Oper} {a : Act} {w : World} (hm : P.follows .mixedOrders = true) (hs : Region.noSelect #[o0, o1, o2, o3, o4, o5, o6, o7, o8, o9, o10, o11, o12, o13, o14, o15, o16, o17, o18, o19, o20, o21] = true)
    (f0 : Region.free .any #[o0, o1, o2, o3, o4, o5, o6, o7, o8, o9, o10, o11, o12, o13, o14, o15, o16, o17, o18, o19, o20, o21] #[false, false, false, false, false, false, false, false, false, false, false, false, false, false, false, false, false, false, false, false, false, false] 0 = true) (r0 : (Region.ready .any #[o0, o1, o2, o3, o4, o5, o6, o7, o8, o9, o10, o11, o12, o13, o14, o15, o16, o17, o18, o19, o20, o21] #[false, false, false, false, false, false, false, false, false, false, false, false, false, false, false, false, false, false, false, false, false, false]).contains 0 = true)
    (f1 : Region.free .any #[o0, o1, o2, o3, o4, o5, o6, o7, o8, o9, o10, o11, o12, o13, o14, o15, o16, o17, o18, o19, o20, o21] #[true, false, false, false, false, false, false, false, false, false, false, false, false, false, false, false, false, false, false, false, false, false] 1 = true) (r1 : (Region.ready .any #[o0, o1, o2, o3, o4, o5, o6, o7, o8, o9, o10, o11, o12, o13, o14, o15, o16, o17, o18, o19, o20, o21] #[true, false, false, false, false, false, false, false, false, false, false, false, false, false, false, false, false, false, false, false, false, false]).contains 1 = true)
    (f2 : Region.free .any #[o0, o1, o2, o3, o4, o5, o6, o7, o8, o9, o10, o11, o12, o13, o14, o15, o16, o17, o18, o19, o20, o21] #[true, true, false, false, false, false, false, false, false, false, false, false, false, false, false, false, false, false, false, false, false, false] 2 = true) (r2 : (Region.ready .any #[o0, o1, o2, o3, o4, o5, o6, o7, o8, o9, o10, o11, o12, o13, o14, o15, o16, o17, o18, o19, o20, o21] #[true, true, false, false, false, false, false, false, false, false, false, false, false, false, false, false, false, false, false, false, false, false]).contains 2 = true)
    (f3 : Region.free .any #[o0, o1, o2, o3, o4, o5, o6, o7, o8, o9, o10, o11, o12, o13, o14, o15, o16, o17, o18, o19, o20, o21] #[true, true, true, false, false, false, false, false, false, false, false, false, false, false, false, false, false, false, false, false, false, false] 3 = true) (r3 : (Region.ready .any #[o0, o1, o2, o3, o4, o5, o6, o7, o8, o9, o10, o11, o12, o13, o14, o15, o16, o17, o18, o19, o20, o21] #[true, true, true, false, false, false, false, false, false, false, false, false, false, false, false, false, false, false, false, false, false, false]).contains 3 = true)
    (f4 : Region.free .any #[o0, o1, o2, o3, o4, o5, o6, o7, o8, o9, o10, o11, o12, o13, o14, o15, o16, o17, o18, o19, o20, o21] #[true, true, true, true, false, false, false, false, false, false, false, false, false, false, false, false, false, false, false, false, false, false] 4 = true) (r4 : (Region.ready .any #[o0, o1, o2, o3, o4, o5, o6, o7, o8, o9, o10, o11, o12, o13, o14, o15, o16, o17, o18, o19, o20, o21] #[true, true, true, true, false, false, false, false, false, false, false, false, false, false, false, false, false, false, false, false, false, false]).contains 4 = true)
    (f5 : Region.free .any #[o0, o1, o2, o3, o4, o5, o6, o7, o8, o9, o10, o11, o12, o13, o14, o15, o16, o17, o18, o19, o20, o21] #[true, true, true, true, true, false, false, false, false, false, false, false, false, false, false, false, false, false, false, false, false, false] 5 = true) (r5 : (Region.ready .any #[o0, o1, o2, o3, o4, o5, o6, o7, o8, o9, o10, o11, o12, o13, o14, o15, o16, o17, o18, o19, o20, o21] #[true, true, true, true, true, false, false, false, false, false, false, false, false, false, false, false, false, false, false, false, false, false]).contains 5 = true)
    (f6 : Region.free .any #[o0, o1, o2, o3, o4, o5, o6, o7, o8, o9, o10, o11, o12, o13, o14, o15, o16, o17, o18, o19, o20, o21] #[true, true, true, true, true, true, false, false, false, false, false, false, false, false, false, false, false, false, false, false, false, false] 6 = true) (r6 : (Region.ready .any #[o0, o1, o2, o3, o4, o5, o6, o7, o8, o9, o10, o11, o12, o13, o14, o15, o16, o17, o18, o19, o20, o21] #[true, true, true, true, true, true, false, false, false, false, false, false, false, false, false, false, false, false, false, false, false, false]).contains 6 = true)
    (f7 : Region.free .any #[o0, o1, o2, o3, o4, o5, o6, o7, o8, o9, o10, o11, o12, o13, o14, o15, o16, o17, o18, o19, o20, o21] #[true, true, true, true, true, true, true, false, false, false, false, false, false, false, false, false, false, false, false, false, false, false] 7 = true) (r7 : (Region.ready .any #[o0, o1, o2, o3, o4, o5, o6, o7, o8, o9, o10, o11, o12, o13, o14, o15, o16, o17, o18, o19, o20, o21] #[true, true, true, true, true, true, true, false, false, false, false, false, false, false, false, false, false, false, false, false, false, false]).contains 7 = true)
    (f8 : Region.free .any #[o0, o1, o2, o3, o4, o5, o6, o7, o8, o9, o10, o11, o12, o13, o14, o15, o16, o17, o18, o19, o20, o21] #[true, true, true, true, true, true, true, true, false, false, false, false, false, false, false, false, false, false, false, false, false, false] 8 = true) (r8 : (Region.ready .any #[o0, o1, o2, o3, o4, o5, o6, o7, o8, o9, o10, o11, o12, o13, o14, o15, o16, o17, o18, o19, o20, o21] #[true, true, true, true, true, true, true, true, false, false, false, false, false, false, false, false, false, false, false, false, false, false]).contains 8 = true)
    (f9 : Region.free .any #[o0, o1, o2, o3, o4, o5, o6, o7, o8, o9, o10, o11, o12, o13, o14, o15, o16, o17, o18, o19, o20, o21] #[true, true, true, true, true, true, true, true, true, false, false, false, false, false, false, false, false, false, false, false, false, false] 9 = true) (r9 : (Region.ready .any #[o0, o1, o2, o3, o4, o5, o6, o7, o8, o9, o10, o11, o12, o13, o14, o15, o16, o17, o18, o19, o20, o21] #[true, true, true, true, true, true, true, true, true, false, false, false, false, false, false, false, false, false, false, false, false, false]).contains 9 = true)
    (f10 : Region.free .any #[o0, o1, o2, o3, o4, o5, o6, o7, o8, o9, o10, o11, o12, o13, o14, o15, o16, o17, o18, o19, o20, o21] #[true, true, true, true, true, true, true, true, true, true, false, false, false, false, false, false, false, false, false, false, false, false] 10 = true) (r10 : (Region.ready .any #[o0, o1, o2, o3, o4, o5, o6, o7, o8, o9, o10, o11, o12, o13, o14, o15, o16, o17, o18, o19, o20, o21] #[true, true, true, true, true, true, true, true, true, true, false, false, false, false, false, false, false, false, false, false, false, false]).contains 10 = true)
    (f11 : Region.free .any #[o0, o1, o2, o3, o4, o5, o6, o7, o8, o9, o10, o11, o12, o13, o14, o15, o16, o17, o18, o19, o20, o21] #[true, true, true, true, true, true, true, true, true, true, true, false, false, false, false, false, false, false, false, false, false, false] 11 = true) (r11 : (Region.ready .any #[o0, o1, o2, o3, o4, o5, o6, o7, o8, o9, o10, o11, o12, o13, o14, o15, o16, o17, o18, o19, o20, o21] #[true, true, true, true, true, true, true, true, true, true, true, false, false, false, false, false, false, false, false, false, false, false]).contains 11 = true)
    (f13 : Region.free .any #[o0, o1, o2, o3, o4, o5, o6, o7, o8, o9, o10, o11, o12, o13, o14, o15, o16, o17, o18, o19, o20, o21] #[true, true, true, true, true, true, true, true, true, true, true, true, false, false, false, false, false, false, false, false, false, false] 13 = true) (r13 : (Region.ready .any #[o0, o1, o2, o3, o4, o5, o6, o7, o8, o9, o10, o11, o12, o13, o14, o15, o16, o17, o18, o19, o20, o21] #[true, true, true, true, true, true, true, true, true, true, true, true, false, false, false, false, false, false, false, false, false, false]).contains 13 = true)
    (f14 : Region.free .any #[o0, o1, o2, o3, o4, o5, o6, o7, o8, o9, o10, o11, o12, o13, o14, o15, o16, o17, o18, o19, o20, o21] #[true, true, true, true, true, true, true, true, true, true, true, true, false, true, false, false, false, false, false, false, false, false] 14 = true) (r14 : (Region.ready .any #[o0, o1, o2, o3, o4, o5, o6, o7, o8, o9, o10, o11, o12, o13, o14, o15, o16, o17, o18, o19, o20, o21] #[true, true, true, true, true, true, true, true, true, true, true, true, false, true, false, false, false, false, false, false, false, false]).contains 14 = true)
    (f15 : Region.free .any #[o0, o1, o2, o3, o4, o5, o6, o7, o8, o9, o10, o11, o12, o13, o14, o15, o16, o17, o18, o19, o20, o21] #[true, true, true, true, true, true, true, true, true, true, true, true, false, true, true, false, false, false, false, false, false, false] 15 = true) (r15 : (Region.ready .any #[o0, o1, o2, o3, o4, o5, o6, o7, o8, o9, o10, o11, o12, o13, o14, o15, o16, o17, o18, o19, o20, o21] #[true, true, true, true, true, true, true, true, true, true, true, true, false, true, true, false, false, false, false, false, false, false]).contains 15 = true)
    (f16 : Region.free .any #[o0, o1, o2, o3, o4, o5, o6, o7, o8, o9, o10, o11, o12, o13, o14, o15, o16, o17, o18, o19, o20, o21] #[true, true, true, true, true, true, true, true, true, true, true, true, false, true, true, true, false, false, false, false, false, false] 16 = true) (r16 : (Region.ready .any #[o0, o1, o2, o3, o4, o5, o6, o7, o8, o9, o10, o11, o12, o13, o14, o15, o16, o17, o18, o19, o20, o21] #[true, true, true, true, true, true, true, true, true, true, true, true, false, true, true, true, false, false, false, false, false, false]).contains 16 = true)
    (f17 : Region.free .any #[o0, o1, o2, o3, o4, o5, o6, o7, o8, o9, o10, o11, o12, o13, o14, o15, o16, o17, o18, o19, o20, o21] #[true, true, true, true, true, true, true, true, true, true, true, true, false, true, true, true, true, false, false, false, false, false] 17 = true) (r17 : (Region.ready .any #[o0, o1, o2, o3, o4, o5, o6, o7, o8, o9, o10, o11, o12, o13, o14, o15, o16, o17, o18, o19, o20, o21] #[true, true, true, true, true, true, true, true, true, true, true, true, false, true, true, true, true, false, false, false, false, false]).contains 17 = true)
    (q_ : Region.ready .any #[o0, o1, o2, o3, o4, o5, o6, o7, o8, o9, o10, o11, o12, o13, o14, o15, o16, o17, o18, o19, o20, o21] #[true, true, true, true, true, true, true, true, true, true, true, true, false, true, true, true, true, true, false, false, false, false] = [12])
    (q12_ : Region.ready .any #[o0, o1, o2, o3, o4, o5, o6, o7, o8, o9, o10, o11, o12, o13, o14, o15, o16, o17, o18, o19, o20, o21] #[true, true, true, true, true, true, true, true, true, true, true, true, true, true, true, true, true, true, false, false, false, false] = [18])
    (q12_18_ : Region.ready .any #[o0, o1, o2, o3, o4, o5, o6, o7, o8, o9, o10, o11, o12, o13, o14, o15, o16, o17, o18, o19, o20, o21] #[true, true, true, true, true, true, true, true, true, true, true, true, true, true, true, true, true, true, true, false, false, false] = [19])
    (f12_18_19_20 : Region.free .any #[o0, o1, o2, o3, o4, o5, o6, o7, o8, o9, o10, o11, o12, o13, o14, o15, o16, o17, o18, o19, o20, o21] #[true, true, true, true, true, true, true, true, true, true, true, true, true, true, true, true, true, true, true, true, false, false] 20 = true) (r12_18_19_20 : (Region.ready .any #[o0, o1, o2, o3, o4, o5, o6, o7, o8, o9, o10, o11, o12, o13, o14, o15, o16, o17, o18, o19, o20, o21] #[true, true, true, true, true, true, true, true, true, true, true, true, true, true, true, true, true, true, true, true, false, false]).contains 20 = true)
    (f12_18_19_21 : Region.free .any #[o0, o1, o2, o3, o4, o5, o6, o7, o8, o9, o10, o11, o12, o13, o14, o15, o16, o17, o18, o19, o20, o21] #[true, true, true, true, true, true, true, true, true, true, true, true, true, true, true, true, true, true, true, true, true, false] 21 = true) (r12_18_19_21 : (Region.ready .any #[o0, o1, o2, o3, o4, o5, o6, o7, o8, o9, o10, o11, o12, o13, o14, o15, o16, o17, o18, o19, o20, o21] #[true, true, true, true, true, true, true, true, true, true, true, true, true, true, true, true, true, true, true, true, true, false]).contains 21 = true)
    (q12_18_19_ : Region.ready .any #[o0, o1, o2, o3, o4, o5, o6, o7, o8, o9, o10, o11, o12, o13, o14, o15, o16, o17, o18, o19, o20, o21] #[true, true, true, true, true, true, true, true, true, true, true, true, true, true, true, true, true, true, true, true, true, true] = [])

    (v0 v1 v2 v3 v4 v5 v6 v7 v8 v9 v10 v11 v13 v14 v15 v16 v17 : Value) (A0 A1 A2 A3 A4 A5 A6 A7 A8 A9 A10 A11 A12 A13 A14 A15 A16 : Act)
    (S : World → Prop)
    (I_ : World → Prop)
    (I12_ : Value → World → Prop)
    (I12_18_ : Value → Value → World → Prop)
    (I12_18_19_ : Value → Value → Value → World → Prop)
    (v20 : Value → Value)
    (v21 : Value → Value)
    (p0 : a.put o0.dst v0 = A0) (hy0 : YieldsIf P #[o0, o1, o2, o3, o4, o5, o6, o7, o8, o9, o10, o11, o12, o13, o14, o15, o16, o17, o18, o19, o20, o21] S o0 v0 a)
    (p1 : A0.put o1.dst v1 = A1) (hy1 : YieldsIf P #[o0, o1, o2, o3, o4, o5, o6, o7, o8, o9, o10, o11, o12, o13, o14, o15, o16, o17, o18, o19, o20, o21] S o1 v1 A0)
    (p2 : A1.put o2.dst v2 = A2) (hy2 : YieldsIf P #[o0, o1, o2, o3, o4, o5, o6, o7, o8, o9, o10, o11, o12, o13, o14, o15, o16, o17, o18, o19, o20, o21] S o2 v2 A1)
    (p3 : A2.put o3.dst v3 = A3) (hy3 : YieldsIf P #[o0, o1, o2, o3, o4, o5, o6, o7, o8, o9, o10, o11, o12, o13, o14, o15, o16, o17, o18, o19, o20, o21] S o3 v3 A2)
    (p4 : A3.put o4.dst v4 = A4) (hy4 : YieldsIf P #[o0, o1, o2, o3, o4, o5, o6, o7, o8, o9, o10, o11, o12, o13, o14, o15, o16, o17, o18, o19, o20, o21] S o4 v4 A3)
    (p5 : A4.put o5.dst v5 = A5) (hy5 : YieldsIf P #[o0, o1, o2, o3, o4, o5, o6, o7, o8, o9, o10, o11, o12, o13, o14, o15, o16, o17, o18, o19, o20, o21] S o5 v5 A4)
    (p6 : A5.put o6.dst v6 = A6) (hy6 : YieldsIf P #[o0, o1, o2, o3, o4, o5, o6, o7, o8, o9, o10, o11, o12, o13, o14, o15, o16, o17, o18, o19, o20, o21] S o6 v6 A5)
    (p7 : A6.put o7.dst v7 = A7) (hy7 : YieldsIf P #[o0, o1, o2, o3, o4, o5, o6, o7, o8, o9, o10, o11, o12, o13, o14, o15, o16, o17, o18, o19, o20, o21] S o7 v7 A6)
    (p8 : A7.put o8.dst v8 = A8) (hy8 : YieldsIf P #[o0, o1, o2, o3, o4, o5, o6, o7, o8, o9, o10, o11, o12, o13, o14, o15, o16, o17, o18, o19, o20, o21] S o8 v8 A7)
    (p9 : A8.put o9.dst v9 = A9) (hy9 : YieldsIf P #[o0, o1, o2, o3, o4, o5, o6, o7, o8, o9, o10, o11, o12, o13, o14, o15, o16, o17, o18, o19, o20, o21] S o9 v9 A8)
    (p10 : A9.put o10.dst v10 = A10) (hy10 : YieldsIf P #[o0, o1, o2, o3, o4, o5, o6, o7, o8, o9, o10, o11, o12, o13, o14, o15, o16, o17, o18, o19, o20, o21] S o10 v10 A9)
    (p11 : A10.put o11.dst v11 = A11) (hy11 : YieldsIf P #[o0, o1, o2, o3, o4, o5, o6, o7, o8, o9, o10, o11, o12, o13, o14, o15, o16, o17, o18, o19, o20, o21] S o11 v11 A10)
    (p13 : A11.put o13.dst v13 = A12) (hy13 : YieldsIf P #[o0, o1, o2, o3, o4, o5, o6, o7, o8, o9, o10, o11, o12, o13, o14, o15, o16, o17, o18, o19, o20, o21] S o13 v13 A11)
    (p14 : A12.put o14.dst v14 = A13) (hy14 : YieldsIf P #[o0, o1, o2, o3, o4, o5, o6, o7, o8, o9, o10, o11, o12, o13, o14, o15, o16, o17, o18, o19, o20, o21] S o14 v14 A12)
    (p15 : A13.put o15.dst v15 = A14) (hy15 : YieldsIf P #[o0, o1, o2, o3, o4, o5, o6, o7, o8, o9, o10, o11, o12, o13, o14, o15, o16, o17, o18, o19, o20, o21] S o15 v15 A13)
    (p16 : A14.put o16.dst v16 = A15) (hy16 : YieldsIf P #[o0, o1, o2, o3, o4, o5, o6, o7, o8, o9, o10, o11, o12, o13, o14, o15, o16, o17, o18, o19, o20, o21] S o16 v16 A14)
    (p17 : A15.put o17.dst v17 = A16) (hy17 : YieldsIf P #[o0, o1, o2, o3, o4, o5, o6, o7, o8, o9, o10, o11, o12, o13, o14, o15, o16, o17, o18, o19, o20, o21] S o17 v17 A15)
    (i0 : I_ w.drew)
    (hIS : (∀ w', I_  w' → S w') ∧ (∀ (u12 : Value) w', I12_ u12 w' → S w') ∧ (∀ (u12 u18 : Value) w', I12_18_ u12 u18 w' → S w') ∧ (∀ (u12 u18 u19 : Value) w', I12_18_19_ u12 u18 u19 w' → S w'))
    (wg_12 : Region.wanted o12 (yielded #[o0, o1, o2, o3, o4, o5, o6, o7, o8, o9, o10, o11, o12, o13, o14, o15, o16, o17, o18, o19, o20, o21] A16.tmps) = true)
    (wg12_18 : ∀ (u12 : Value), Region.wanted o18 (yielded #[o0, o1, o2, o3, o4, o5, o6, o7, o8, o9, o10, o11, o12, o13, o14, o15, o16, o17, o18, o19, o20, o21] (A16.put o12.dst u12).tmps) = true)
    (wg12_18_19 : ∀ (u12 u18 : Value), Region.wanted o19 (yielded #[o0, o1, o2, o3, o4, o5, o6, o7, o8, o9, o10, o11, o12, o13, o14, o15, o16, o17, o18, o19, o20, o21] ((A16.put o12.dst u12).put o18.dst u18).tmps) = true)
    (s_12 : ∀ w', I_  w' → ∀ K : Act → World → Prop, (∀ (u12 : Value) w2, I12_ u12 w2 → K (A16.put o12.dst u12) w2) → o12.wp P A16 w' K (NoPanic Q))
    (s12_18 : ∀ (u12 : Value) w', I12_ u12 w' → ∀ K : Act → World → Prop, (∀ (u18 : Value) w2, I12_18_ u12 u18 w2 → K ((A16.put o12.dst u12).put o18.dst u18) w2) → o18.wp P (A16.put o12.dst u12) w' K (NoPanic Q))
    (s12_18_19 : ∀ (u12 u18 : Value) w', I12_18_ u12 u18 w' → ∀ K : Act → World → Prop, (∀ (u19 : Value) w2, I12_18_19_ u12 u18 u19 w2 → K (((A16.put o12.dst u12).put o18.dst u18).put o19.dst u19) w2) → o19.wp P ((A16.put o12.dst u12).put o18.dst u18) w' K (NoPanic Q))
    (y12_18_19_20 : ∀ (u12 u18 u19 : Value) w', I12_18_19_ u12 u18 u19 w' → YieldsIf P #[o0, o1, o2, o3, o4, o5, o6, o7, o8, o9, o10, o11, o12, o13, o14, o15, o16, o17, o18, o19, o20, o21] S o20 (v20 u19) (((A16.put o12.dst u12).put o18.dst u18).put o19.dst u19))
    (y12_18_19_21 : ∀ (u12 u18 u19 : Value) w', I12_18_19_ u12 u18 u19 w' → YieldsIf P #[o0, o1, o2, o3, o4, o5, o6, o7, o8, o9, o10, o11, o12, o13, o14, o15, o16, o17, o18, o19, o20, o21] S o21 (v21 u19) ((((A16.put o12.dst u12).put o18.dst u18).put o19.dst u19).put o20.dst (v20 u19)))
    (h : ∀ (u12 u18 u19 : Value) w', I12_18_19_ u12 u18 u19 w' → Q .normal (((((A16.put o12.dst u12).put o18.dst u18).put o19.dst u19).put o20.dst (v20 u19)).put o21.dst (v21 u19)) w') :
    (Code.region id #[o0, o1, o2, o3, o4, o5, o6, o7, o8, o9, o10, o11, o12, o13, o14, o15, o16, o17, o18, o19, o20, o21] true).wp P Q a w := by
  subst p0 p1 p2 p3 p4 p5 p6 p7 p8 p9 p10 p11 p13 p14 p15 p16 p17
  obtain ⟨z_, z12_, z12_18_, z12_18_19_⟩ := hIS
  refine wp_region_noPanic ?_
  refine wp_region_held_drew (S := S) hm (z_ _ i0) (fun hH => ?_)
  show wpAnyH P .any #[o0, o1, o2, o3, o4, o5, o6, o7, o8, o9, o10, o11, o12, o13, o14, o15, o16, o17, o18, o19, o20, o21] (NoPanic Q) S 22 #[false, false, false, false, false, false, false, false, false, false, false, false, false, false, false, false, false, false, false, false, false, false] a w.drew
  refine wpAnyH_take (i := 0) (oi := o0) rfl hs f0 r0 (fun _ _ _ h => h) hy0 hH ?_
  refine wpAnyH_take (i := 1) (oi := o1) rfl hs f1 r1 (fun _ _ _ h => h) hy1 hH ?_
  refine wpAnyH_take (i := 2) (oi := o2) rfl hs f2 r2 (fun _ _ _ h => h) hy2 hH ?_
  refine wpAnyH_take (i := 3) (oi := o3) rfl hs f3 r3 (fun _ _ _ h => h) hy3 hH ?_
  refine wpAnyH_take (i := 4) (oi := o4) rfl hs f4 r4 (fun _ _ _ h => h) hy4 hH ?_
  refine wpAnyH_take (i := 5) (oi := o5) rfl hs f5 r5 (fun _ _ _ h => h) hy5 hH ?_
  refine wpAnyH_take (i := 6) (oi := o6) rfl hs f6 r6 (fun _ _ _ h => h) hy6 hH ?_
  refine wpAnyH_take (i := 7) (oi := o7) rfl hs f7 r7 (fun _ _ _ h => h) hy7 hH ?_
  refine wpAnyH_take (i := 8) (oi := o8) rfl hs f8 r8 (fun _ _ _ h => h) hy8 hH ?_
  refine wpAnyH_take (i := 9) (oi := o9) rfl hs f9 r9 (fun _ _ _ h => h) hy9 hH ?_
  refine wpAnyH_take (i := 10) (oi := o10) rfl hs f10 r10 (fun _ _ _ h => h) hy10 hH ?_
  refine wpAnyH_take (i := 11) (oi := o11) rfl hs f11 r11 (fun _ _ _ h => h) hy11 hH ?_
  refine wpAnyH_take (i := 13) (oi := o13) rfl hs f13 r13 (fun _ _ _ h => h) hy13 hH ?_
  refine wpAnyH_take (i := 14) (oi := o14) rfl hs f14 r14 (fun _ _ _ h => h) hy14 hH ?_
  refine wpAnyH_take (i := 15) (oi := o15) rfl hs f15 r15 (fun _ _ _ h => h) hy15 hH ?_
  refine wpAnyH_take (i := 16) (oi := o16) rfl hs f16 r16 (fun _ _ _ h => h) hy16 hH ?_
  refine wpAnyH_take (i := 17) (oi := o17) rfl hs f17 r17 (fun _ _ _ h => h) hy17 hH ?_
  generalize (((((((((((((((((a.put o0.dst v0).put o1.dst v1).put o2.dst v2).put o3.dst v3).put o4.dst v4).put o5.dst v5).put o6.dst v6).put o7.dst v7).put o8.dst v8).put o9.dst v9).put o10.dst v10).put o11.dst v11).put o13.dst v13).put o14.dst v14).put o15.dst v15).put o16.dst v16).put o17.dst v17) = B at *
  have t12_18_19_ : ∀ (u12 u18 u19 : Value) w', I12_18_19_ u12 u18 u19 w' → wpAnyH P .any #[o0, o1, o2, o3, o4, o5, o6, o7, o8, o9, o10, o11, o12, o13, o14, o15, o16, o17, o18, o19, o20, o21] (NoPanic Q) S 0 #[true, true, true, true, true, true, true, true, true, true, true, true, true, true, true, true, true, true, true, true, true, true] (((((B.put o12.dst u12).put o18.dst u18).put o19.dst u19).put o20.dst (v20 u19)).put o21.dst (v21 u19)) w' := by
    intro u12 u18 u19 w0 i0
    exact ⟨q12_18_19_, NoPanic.normal (h u12 u18 u19 w0 i0)⟩
  have t12_18_ : ∀ (u12 u18 : Value) w', I12_18_ u12 u18 w' → wpAnyH P .any #[o0, o1, o2, o3, o4, o5, o6, o7, o8, o9, o10, o11, o12, o13, o14, o15, o16, o17, o18, o19, o20, o21] (NoPanic Q) S 3 #[true, true, true, true, true, true, true, true, true, true, true, true, true, true, true, true, true, true, true, false, false, false] ((B.put o12.dst u12).put o18.dst u18) w' := by
    intro u12 u18 w0 i0
    refine wpAnyH_ready (rs := [19]) q12_18_ (by simp) (AllReadyH.cons (o := o19) rfl (fun K hK => ?_) AllReadyH.nil)
    · rw [if_pos (wg12_18_19 u12 u18)]
      refine s12_18_19 u12 u18 w0 i0 K (fun u19 w1 i1 => hK.out _ _ (z12_18_19_ u12 u18 u19 w1 i1) (fun _ => ?_))
      clear hK
      refine wpAnyH_take (i := 20) (oi := o20) rfl hs f12_18_19_20 r12_18_19_20 (fun _ _ _ h => h) (y12_18_19_20 u12 u18 u19 w1 i1) (z12_18_19_ u12 u18 u19 w1 i1) ?_
      refine wpAnyH_take (i := 21) (oi := o21) rfl hs f12_18_19_21 r12_18_19_21 (fun _ _ _ h => h) (y12_18_19_21 u12 u18 u19 w1 i1) (z12_18_19_ u12 u18 u19 w1 i1) ?_
      exact t12_18_19_ u12 u18 u19 w1 i1
  have t12_ : ∀ (u12 : Value) w', I12_ u12 w' → wpAnyH P .any #[o0, o1, o2, o3, o4, o5, o6, o7, o8, o9, o10, o11, o12, o13, o14, o15, o16, o17, o18, o19, o20, o21] (NoPanic Q) S 4 #[true, true, true, true, true, true, true, true, true, true, true, true, true, true, true, true, true, true, false, false, false, false] (B.put o12.dst u12) w' := by
    intro u12 w0 i0
    refine wpAnyH_ready (rs := [18]) q12_ (by simp) (AllReadyH.cons (o := o18) rfl (fun K hK => ?_) AllReadyH.nil)
    · rw [if_pos (wg12_18 u12)]
      refine s12_18 u12 w0 i0 K (fun u18 w1 i1 => hK.out _ _ (z12_18_ u12 u18 w1 i1) (fun _ => ?_))
      clear hK
      exact t12_18_ u12 u18 w1 i1
  have t_ : ∀ w', I_  w' → wpAnyH P .any #[o0, o1, o2, o3, o4, o5, o6, o7, o8, o9, o10, o11, o12, o13, o14, o15, o16, o17, o18, o19, o20, o21] (NoPanic Q) S 5 #[true, true, true, true, true, true, true, true, true, true, true, true, false, true, true, true, true, true, false, false, false, false] B w' := by
    intro w0 i0
    refine wpAnyH_ready (rs := [12]) q_ (by simp) (AllReadyH.cons (o := o12) rfl (fun K hK => ?_) AllReadyH.nil)
    · rw [if_pos (wg_12 )]
      refine s_12  w0 i0 K (fun u12 w1 i1 => hK.out _ _ (z12_ u12 w1 i1) (fun _ => ?_))
      clear hK
      exact t12_ u12 w1 i1
  exact t_ w.drew i0

end
end Go.Proofs.YtjafmnemobcipaaDoor
namespace Go.Proofs.YtjafmnemobcipaaDoor
open Go.RowKit Go.BigFrame
set_option linter.unusedVariables false
set_option linter.unusedSimpArgs false

theorem turnS_kl {ss : List (Nat × List (List Nat))} {s k b N : Nat} (h : ∀ x ∈ ss, x.2.length ≤ N) : ∀ x ∈ turnS ss s k b, x.2.length ≤ N := by
  intro x hx
  obtain ⟨i, hi, rfl⟩ := List.getElem_of_mem hx
  rw [turnS_len] at hi
  have h9 := (turnS_one ss s k b i).2
  rw [List.getD_eq_getElem?_getD, List.getElem?_eq_getElem (by rw [turnS_len]; exact hi)] at h9
  simp only [Option.getD_some] at h9
  rw [h9]
  exact h _ (getD_mem _ _ _ hi)

set_option maxRecDepth 100000 in
set_option maxHeartbeats 4000000 in
theorem hcheckTurned_walk (q : AskH) (x1 x2 : Int) (by' : Nat) (kv sv pv : Value) (w : World) (hq : OkH w q kv sv pv) (h1 : -9223372036854775808 ≤ x1 ∧ x1 ≤ 9223372036854775807) (h2 : -9223372036854775808 ≤ x2 ∧ x2 ≤ 9223372036854775807) (hby : by' < 256) (hT : Tabs w) :
    Calls Tryd.prog 4 #[.agg (askH q kv sv pv).toArray, .int .i64 x1, .int .i64 x2, .int .u8 by'] w fun e w' => e = .returned (.bool true) ∧ Below w.heap.size w w' := by
  have HT := hide hT
  have HQ := hide hq
  obtain ⟨ka, kn, kc, rfl, h9⟩ := id hq.k
  clear h9
  obtain ⟨sa, sn, sc, vs, rfl, hsn, hsc, hsc2, s4, s5⟩ := id hq.P.s
  obtain ⟨pa, pn, pc, _, _, rfl, h9⟩ := id hq.P.p
  clear h9
  have S4 := hide s4
  have S5 := hide s5
  have HSN := hide hsn
  clear hT hq s4 s5 hsn
  have HG := hide (heap_alloc_new w (.cells (askH q (.slice ka kn kc) (.slice sa sn sc) (.slice pa pn pc)).toArray 39))
  have HK0 := hide ((Kept.refl [] w).alloc (.cells (askH q (.slice ka kn kc) (.slice sa sn sc) (.slice pa pn pc)).toArray 39))
  obtain ⟨W, hW⟩ : ∃ W, w.alloc (.cells (askH q (.slice ka kn kc) (.slice sa sn sc) (.slice pa pn pc)).toArray 39) = W := ⟨_, rfl⟩
  rw [hW] at HG HK0
  go_enter Tryd.func4, Tryd.ntmps4
  go_wp2_with fail
  clear hW
  refine Calls.mono (hawake_any W ((unhide HT).k (unhide HK0))) ?_
  rintro e w1 ⟨rfl, k1⟩
  have HG1 := hide (k1.heap (unhide HG) (by simp))
  have HK1 := hide ((unhide HK0).trans k1 (by simp))
  have HB1 := hide ((unhide HK1).below (Nat.le_refl _) (by simp) : Below w.heap.size w w1)
  clear HG HK0 k1
  obtain ⟨c0, c1, c2, c3, r4⟩ := askH_cells (unhide HG1)
  clear r4
  by_cases hx1 : x1 < 0
  · go_wp2
    go_ret
    exact ⟨rfl, unhide HB1⟩
  · obtain ⟨s, rfl⟩ : ∃ s : Nat, x1 = s := ⟨x1.toNat, by omega⟩
    by_cases hs : s < sn
    · have hs' : ¬ (sn : Int) ≤ (s : Int) := by omega
      have hs2 : (s : Int) < sn := by omega
      obtain ⟨b, o, rfl, hcell⟩ := unhide S5 (by omega)
      have q1 := (unhide HK1).cell (hcell s hs).1 (by simp)
      have q2 := (unhide HK1).cell (hcell s hs).2 (by simp)
      have HD := hide (unhide S4 s hs)
      clear hcell
      by_cases hx2 : x2 < 0
      · go_wp2
        go_ret
        exact ⟨rfl, unhide HB1⟩
      · obtain ⟨k, rfl⟩ : ∃ k : Nat, x2 = k := ⟨x2.toNat, by omega⟩
        have HSD := hide (unhide HQ).P
        have hsl : s < q.ss.length := by rw [unhide HSN]; exact hs
        have HKL2 := hide (fun (hk : k < (q.ss.getD s (0, [])).2.length) => hk)
        generalize hst : q.ss.getD s (0, []) = st at q1 HD HKL2
        generalize vs.getD s undef = vi at q2 HD
        obtain ⟨sb, sk⟩ := st
        simp only at q1 HD HKL2
        obtain ⟨a8, m8, c8, rfl, hm8, hm9⟩ := id (unhide HD).2
        have HST := hide hst
        have HM8 := hide hm8
        clear hst hm8 hm9
        by_cases hk : k < m8
        · have hk' : ¬ (m8 : Int) ≤ (k : Int) := by omega
          have hk2 : (k : Int) < m8 := by omega
          by_cases hb0 : by' = 0
          · subst hb0
            go_wp2
            go_ret
            exact ⟨rfl, unhide HB1⟩
          · have hb0' : ¬ (by' : Int) = 0 := by omega
            have d1 : decide ((s : Int) < 0) = false := by simp
            have d2 : decide (sn ≤ s) = false := by simp; omega
            have d3 : decide ((k : Int) < 0) = false := by simp
            have d4 : decide (m8 ≤ k) = false := by simp; omega
            have d5 : decide (by' = 0) = false := by simp; omega
            have d6 : ((by' : Int) == 0) = false := by simp; omega
            go_wp2_with fail
            refine Calls.mono (htwinP_any _ _ q.ss q.ps _ ((unhide HQ).P.s.old (unhide HK1)) ((unhide HQ).P.p.old (unhide HK1)) (unhide HQ).P.sl (unhide HQ).P.pl (unhide HQ).P.kl) ?_
            rintro e w2 ⟨⟨s2, p2, rfl, TW⟩, k2⟩
            have kQ := ((Kept.refl [] w2).alloc (.cells #[.slice none 0 0, .slice none 0 0] 26)).setRow (g := w2.heap.size) (Or.inr (Nat.le_refl _)) #[s2, p2]
            have HQX := hide (setRow_heap (w2.alloc (.cells #[.slice none 0 0, .slice none 0 0] 26)) w2.heap.size _ #[s2, p2] 26 (0, 0) (heap_alloc_new _ _))
            obtain ⟨X, hX⟩ : ∃ X, (w2.alloc (.cells #[.slice none 0 0, .slice none 0 0] 26)).setRow w2.heap.size #[s2, p2] = X := ⟨_, rfl⟩
            rw [hX] at kQ HQX
            have KX1 := k2.trans kQ (by simp)
            obtain ⟨g0, c9, kg, kc9, cur, hsv2, hlc, hcl2, hgk, hck, hwg0, hwkg, h256, hRS, hRK, hKK⟩ := (TW.pass kQ).turn KX1 hsl (by rw [unhide HST]; exact (by have := unhide HM8; omega : k < sk.length)) hby
            obtain ⟨pa2, pn2, pc2, _, _, hpv2, h9⟩ := id hRK
            subst hsv2
            subst hpv2
            clear h9
            rw [unhide HSN] at hlc HQX hRS hX ⊢
            rw [unhide HST] at hcl2 hck h256 hRS hRK hKK
            simp only at hcl2 hck h256 hRS hRK hKK
            rw [unhide HM8] at hcl2
            generalize hd0 : (sk.getD k []).getD 0 0 = d0 at hck h256 hRS hRK hKK
            have HKX := hide ((unhide HK1).trans KX1 (by simp))
            have HGX := hide (KX1.heap (unhide HG1) (by simp))
            have hw2 : w1.heap.size ≤ w2.heap.size := k2.size
            have cq : X.cell? ⟨w2.heap.size, 0, none⟩ = some (.slice (some ⟨g0, 0, none⟩) sn c9) := cell_of_row _ _ 0 _ _ _ (unhide HQX)
            clear c0 c1 c2 c3 q1 q2 TW k2
            go_wp2_with (refine wpList_store_row rfl 26 _ _ rfl w2.heap.size #[.slice (some ⟨g0, 0, none⟩) sn c9, .slice pa2 pn2 pc2] rfl rfl _ #[.slice none 0 0, .slice none 0 0] (heap_alloc_new _ _) (by kernel_rfl) rfl (by simp [Value.oneCell']) ?_; rw [hX])
            clear hX
            simp only [Act.put]
            refine wp_quiet_tail 14 (by kernel_rfl) (by kernel_rfl) ?_
            simp only [List.take_succ_cons, List.take_zero, List.drop_succ_cons, List.drop_zero]
            repeat (go_big_quiet_step (fail))
            refine wpQuiet_nil ?_
            intro _ hw'
            obtain ⟨n1, hw''⟩ := hw'
            subst hw''
            have fz9 : (X.drewN n1).frozen? ⟨kg, k * 32, none⟩ = false := by simp [World.frozen?, hgk]
            have ck9 := ((Kept.refl [] X).drewN n1).cell hck (by simp)
            have hxor := u8_xor_nat d0 by' h256 hby
            have hne : kg ≠ w2.heap.size := by
              intro e9
              have h9 := hgk
              rw [e9, unhide HQX] at h9
              simp at h9
            have kD := (Kept.refl [] (X.setCell ⟨kg, k * 32, none⟩ (u8 (d0 ^^^ by')))).drewN n1
            have HQZ := hide (kD.heap ((heap_setCell_other X ⟨kg, k * 32, none⟩ w2.heap.size (u8 (d0 ^^^ by')) (by simpa using Ne.symm hne)).trans (unhide HQX)) (by simp))
            obtain ⟨Z, hZ⟩ : ∃ Z, (X.drewN n1).setCell ⟨kg, k * 32, none⟩ (Value.int IntKind.u8 ((d0 ^^^ by' : Nat) : Int)) = Z := ⟨_, rfl⟩
            have hZ2 : (X.setCell ⟨kg, k * 32, none⟩ (u8 (d0 ^^^ by'))).drewN n1 = Z := hZ
            rw [hZ2] at kD HQZ
            have HRS := hide (hRS.old kD)
            have HRK := hide (hRK.old kD)
            have KZ := hKK.trans kD (by simp)
            have HKZ := hide ((unhide HK1).trans KZ (by simp))
            have HGZ := hide (KZ.heap (unhide HG1) (by simp))
            have HKD := hide (by rw [unhide HST]; simp only; exact ((unhide HD).2.dg (getD_mem sk k [] (by have := unhide HM8; omega))).1 : ((q.ss.getD s (0, [])).2.getD k []).length = 32)
            have HKS := hide (by rw [unhide HST]; simp only; have := unhide HM8; omega : k < (q.ss.getD s (0, [])).2.length)
            obtain ⟨c0, c1, c2, c3, r4⟩ := askH_cells (unhide HGZ)
            clear r4 kD KZ hRS hRK hKK hZ2 hne
            have HRA := hide (fun w0 (hw0 : Kept [] w w0) => hrootOf_any q.z (.slice ka kn kc) q.k (.slice (some ⟨b, o, none⟩) sn sc) (.slice pa pn pc) q.ss q.ps w0 (unhide HQ).z ((unhide HQ).k.old hw0 (by simp)) ((unhide HQ).P.s.old hw0) ((unhide HQ).P.p.old hw0) ((unhide HT).k hw0) (unhide HQ).P.pb (unhide HQ).P.s9 (unhide HQ).P.p9 (unhide HQ).P.k9)
            have HRB := hide (fun w0 (hw0 : Kept [] Z w0) => hrootOf_any q.z (.slice ka kn kc) q.k (.slice (some ⟨g0, 0, none⟩) sn c9) (.slice pa2 pn2 pc2) (turnS q.ss s k by') q.ps w0 (unhide HQ).z ((unhide HQ).k.old ((unhide HKZ).trans hw0 (by simp)) (by simp)) ((unhide HRS).old hw0) ((unhide HRK).old hw0) ((unhide HT).k ((unhide HKZ).trans hw0 (by simp))) (unhide HQ).P.pb (by rw [turnS_len]; exact (unhide HQ).P.s9) (unhide HQ).P.p9 (turnS_kl (unhide HQ).P.k9))
            rw [rtE_turn hsl (unhide HKS) (unhide HKD), rtV_turn hsl (unhide HKS) (unhide HKD)] at HRB
            have HPA := hide (fun (h : rtE q.z q.k q.ss q.ps = 0) => Pth.of h (unhide HQ).P.s.small.1 (unhide HQ).P.s.small.2)
            have HPB := hide (fun (h : rtE q.z q.k q.ss q.ps = 0) => Pth.of (by rw [rtE_turn hsl (unhide HKS) (unhide HKD)]; exact h : rtE q.z q.k (turnS q.ss s k by') q.ps = 0) (unhide HRS).small.1 (unhide HRS).small.2)
            have HIA := hide (fun (h : rtE q.z q.k q.ss q.ps = 0) w0 (hw0 : Kept [] w w0) => inputs_any q.z (.slice ka kn kc) q.k (.slice (some ⟨b, o, none⟩) sn sc) (.slice pa pn pc) q.ss q.ps w0 (unhide HPA h) (hfE_zero (rtE_zero h).1).2 ((unhide HQ).k.old hw0 (by simp)) ((unhide HQ).P.s.old hw0) ((unhide HQ).P.p.old hw0) ((unhide HT).k hw0) (unhide HQ).P.pb)
            have HIB := hide (fun (h : rtE q.z q.k q.ss q.ps = 0) w0 (hw0 : Kept [] Z w0) => inputs_any q.z (.slice ka kn kc) q.k (.slice (some ⟨g0, 0, none⟩) sn c9) (.slice pa2 pn2 pc2) (turnS q.ss s k by') q.ps w0 (unhide HPB h) (hfE_zero (rtE_zero h).1).2 ((unhide HQ).k.old ((unhide HKZ).trans hw0 (by simp)) (by simp)) ((unhide HRS).old hw0) ((unhide HRK).old hw0) ((unhide HT).k ((unhide HKZ).trans hw0 (by simp))) (unhide HQ).P.pb)
            have HBI := hide (fun (h : rtE q.z q.k q.ss q.ps = 0) (he : rtD q.z q.k q.ss q.ps = rtD q.z q.k (turnS q.ss s k by') q.ps) => (turned hsl (unhide HKS) hb0 (unhide HPA h) (unhide HPB h) (by
              have h8 := he
              unfold rtD at h8
              rw [rtE_turn hsl (unhide HKS) (unhide HKD), if_pos h, if_pos h] at h8
              exact h8) : clF q.z (inpA q.z q.k q.ss q.ps) (inpA q.z q.k (turnS q.ss s k by') q.ps) = true))
            have HWD := hide (fun (h : rtE q.z q.k q.ss q.ps = 0) => (hfE_zero (rtE_zero h).1).1)
            have HDA := hide (rtD_dg q.z q.k q.ss q.ps)
            have HDB := hide (rtD_dg q.z q.k (turnS q.ss s k by') q.ps)
            clear HPA HPB
            generalize rtD q.z q.k q.ss q.ps = D at *
            generalize rtV q.z q.k q.ss q.ps = V at *
            generalize rtE q.z q.k q.ss q.ps = E at *
            generalize rtD q.z q.k (turnS q.ss s k by') q.ps = C at *
            generalize inpA q.z q.k q.ss q.ps = IA at *
            generalize inpA q.z q.k (turnS q.ss s k by') q.ps = IB at *
            have hdl := (unhide HDA).1
            have hcl := (unhide HDB).1
            have HSDD := hide (Tryd.szD hdl)
            have HSC := hide (Tryd.szD hcl)
            go_wp2_with (rw [hZ])
            clear hZ ck9 fz9 hxor
            clear c0 c1 c2 c3
            refine Calls.mono (unhide HRA Z (unhide HKZ)) ?_
            rintro e w3 ⟨⟨v3, rfl, r3⟩, k3⟩
            have HV3 := hide r3
            obtain ⟨va, vn, vc, rfl, h9⟩ := id r3
            clear r3 h9
            have kN := (k3.alloc (.cells (zb 32) 29)).setRow (g := w3.heap.size) (Or.inr k3.size) (brow D)
            have kS := ((Kept.refl [] w3).alloc (.cells (zb 32) 29)).setRow (g := w3.heap.size) (Or.inr (Nat.le_refl _)) (brow D)
            have HX3 := hide (setRow_heap (w3.alloc (.cells (zb 32) 29)) w3.heap.size (zb 32) (brow D) 29 (0, 0) (heap_alloc_new _ _))
            have HQ3 := hide (kN.heap (unhide HQZ) (by simp))
            have HG3 := hide (kN.heap (unhide HGZ) (by simp))
            have HV4 := hide ((unhide HV3).old kS (by simp))
            have HKN := hide kN
            obtain ⟨X3, hX3⟩ : ∃ X3, (w3.alloc (.cells (zb 32) 29)).setRow w3.heap.size (brow D) = X3 := ⟨_, rfl⟩
            rw [hX3] at HX3 HQ3 HG3 HV4 HKN
            obtain ⟨c0, c1, c2, c3, r4⟩ := askH_cells (unhide HG3)
            clear r4 kN kS k3 HV3 HRA HQZ HGZ
            go_wp2_with (first
              | (rw [zb32]; refine wpList_store_row rfl 29 _ _ rfl w3.heap.size (brow D) rfl rfl _ (zb 32) (heap_alloc_new _ _) (unhide HSDD) (by rw [zb_size, brow_size, hdl]) (brow_one _) ?_; rw [hX3])
              | (refine wpList_load_row rfl 26 _ rfl w2.heap.size rfl _ #[.slice (some ⟨g0, 0, none⟩) sn c9, .slice pa2 pn2 pc2] (0, 0) _ (unhide HQ3) Tryd.underlying26 rfl (by kernel_rfl) ?_))
            clear hX3 c0 c1 c2 c3
            refine Calls.mono (unhide HRB X3 (unhide HKN)) ?_
            rintro e w4 ⟨⟨v4, rfl, r4⟩, k4⟩
            have HU4 := hide r4
            obtain ⟨ua, un, uc, rfl, h9⟩ := id r4
            clear r4 h9
            have kN := (k4.alloc (.cells (zb 32) 29)).setRow (g := w4.heap.size) (Or.inr k4.size) (brow C)
            have kS := ((Kept.refl [] w4).alloc (.cells (zb 32) 29)).setRow (g := w4.heap.size) (Or.inr (Nat.le_refl _)) (brow C)
            have HY5 := hide (setRow_heap (w4.alloc (.cells (zb 32) 29)) w4.heap.size (zb 32) (brow C) 29 (0, 0) (heap_alloc_new _ _))
            have HX5 := hide (kN.heap (unhide HX3) (by simp))
            have HQ5 := hide (kN.heap (unhide HQ3) (by simp))
            have HG5 := hide (kN.heap (unhide HG3) (by simp))
            have HK5 := hide ((unhide HKN).trans kN (by simp))
            have HV5 := hide ((unhide HV4).old kN (by simp))
            have HU5 := hide ((unhide HU4).old kS (by simp))
            obtain ⟨Y, hY⟩ : ∃ Y, (w4.alloc (.cells (zb 32) 29)).setRow w4.heap.size (brow C) = Y := ⟨_, rfl⟩
            rw [hY] at HY5 HX5 HQ5 HG5 HK5 HV5 HU5
            have HB5 := hide (((unhide HKZ).trans (unhide HK5) (by simp)).below (Nat.le_refl _) (by simp) : Below w.heap.size w Y)
            clear kN kS k4 HX3 HQ3 HG3 HKN HV4 HU4 HRB
            by_cases hE : E = 0
            · have HBI2 := hide (unhide HBI hE)
              have HIA2 := hide (unhide HIA hE)
              have HIB2 := hide (unhide HIB hE)
              have HW2 := hide (unhide HWD hE)
              subst hE
              clear HBI HIA HIB HWD
              go_wp2_with (rw [zb32]; refine wpList_store_row rfl 29 _ _ rfl w4.heap.size (brow C) rfl rfl _ (zb 32) (heap_alloc_new _ _) (unhide HSC) (by rw [zb_size, brow_size, hcl]) (brow_one _) ?_; rw [hY])
              clear hY
              refine Calls.mono (same_any _ _ (V.getD []) (V.getD []) _ (unhide HU5) (unhide HV5)) ?_
              rintro e w6 ⟨rfl, n6, rfl⟩
              rw [decide_eq_true rfl]
              have heq := fun W => dig_eq W C D hcl hdl
              have HKY := hide ((Kept.refl [] Y).drewN n6)
              have HY6 := hide ((unhide HKY).heap (unhide HY5) (by simp))
              have HX6 := hide ((unhide HKY).heap (unhide HX5) (by simp))
              have HQ6 := hide ((unhide HKY).heap (unhide HQ5) (by simp))
              have HG6 := hide ((unhide HKY).heap (unhide HG5) (by simp))
              have HK6 := hide ((unhide HK5).trans (unhide HKY) (by simp))
              obtain ⟨Y6, hY6⟩ : ∃ Y6, Y.drewN n6 = Y6 := ⟨_, rfl⟩
              rw [hY6] at HY6 HX6 HQ6 HG6 HK6 ⊢
              have HB6 := hide (((unhide HKZ).trans (unhide HK6) (by simp)).below (Nat.le_refl _) (by simp) : Below w.heap.size w Y6)
              clear hY6 HKY HY5 HX5 HQ5 HG5 HK5 HV5 HU5 HB5
              go_wp2_with fail
              obtain ⟨c0, c1, c2, c3, r4⟩ := askH_cells (unhide HG6)
              clear r4
              have t0 := cell_of_row _ _ 0 _ _ _ (unhide HQ6)
              have t1 := cell_of_row _ _ 1 _ _ _ (unhide HQ6)
              simp only [List.getElem?_toArray, List.getElem?_cons_zero, List.getElem?_cons_succ] at t0 t1
              by_cases hCD : C = D
              · have HCL := hide (unhide HBI2 hCD.symm)
                rw [decide_eq_true hCD] at heq
                have HLA := hide (fun w' (hw' : Kept [] Y6 w') => unhide HIA2 w' ((unhide HKZ).trans ((unhide HK6).trans hw' (by simp)) (by simp)))
                have HLB := hide (fun w' (hw' : Kept [] Y6 w') => unhide HIB2 w' ((unhide HK6).trans hw' (by simp)))
                have HLC := hide (fun w' (hw' : Kept [] Y6 w') a b (ha : RdL w' a IA) (hb : RdL w' b IB) => clash_any q.z a b IA IB w' (unhide HW2) ha hb ((unhide HT).k ((unhide HKZ).trans ((unhide HK6).trans hw' (by simp)) (by simp))))
                rw [unhide HCL] at HLC
                clear hCD HBI2 HIA2 HIB2
                refine wp_tu22 (by kernel_rfl) (by kernel_rfl) (by kernel_rfl) (by kernel_rfl) (by kernel_rfl) (by kernel_rfl) (by kernel_rfl) (by kernel_rfl) (by kernel_rfl) (by kernel_rfl) (by kernel_rfl) (by kernel_rfl) (by kernel_rfl) (by kernel_rfl) (by kernel_rfl) (by kernel_rfl) (by kernel_rfl) (by kernel_rfl) (by kernel_rfl) (by kernel_rfl) (by kernel_rfl) (by kernel_rfl) (by kernel_rfl) (by kernel_rfl) (by kernel_rfl) (by kernel_rfl) (by kernel_rfl) (by kernel_rfl) (by kernel_rfl) (by kernel_rfl) (by kernel_rfl) (by kernel_rfl) (by kernel_rfl) (by kernel_rfl) (by kernel_rfl) (by kernel_rfl) (by kernel_rfl) (by kernel_rfl) (by kernel_rfl) (by kernel_rfl) (by kernel_rfl) (by kernel_rfl) (by kernel_rfl) (by kernel_rfl)
                  (.agg (C.map Go.Proofs.YtjafmnemobcipaaDoor.u8).toArray) (.agg (D.map Go.Proofs.YtjafmnemobcipaaDoor.u8).toArray) (.bool false) (.bool false) (.pointer (some ⟨w.heap.size, 0, none⟩)) (.int .i64 q.z) (.pointer (some ⟨w.heap.size, 0, none⟩)) (.int .i64 q.z) (.pointer (some ⟨w.heap.size, 1, none⟩)) (.slice ka kn kc) (.pointer (some ⟨w.heap.size, 2, none⟩)) (.agg #[.slice (some ⟨b, o, none⟩) sn sc, .slice pa pn pc])
                  (.pointer (some ⟨w.heap.size, 0, none⟩)) (.int .i64 q.z) (.pointer (some ⟨w.heap.size, 1, none⟩)) (.slice ka kn kc) (.agg #[.slice (some ⟨g0, 0, none⟩) sn c9, .slice pa2 pn2 pc2]) _ _ _ _ _ _ _ _ _ _ _ _ _ _ _ _ _
                  (fun w' => Kept [] Y6 w')
                  (fun w' => Kept [] Y6 w')
                  (fun u4 w' => RdL w' u4 IA ∧ Kept [] Y6 w')
                  (fun u4 u8 w' => RdL w' u4 IA ∧ RdL w' u8 IB ∧ Kept [] Y6 w')
                  (fun u4 u8 u9 w' => u9 = .bool true ∧ Kept [] Y6 w')
                  (fun u => u) (fun u => u)
                  (by simp only [Act.put, List.setIfInBounds_toArray, List.set_cons_zero, List.set_cons_succ]; rfl) (by exact yieldsIf_load_mid (by rfl) _ _ rfl w4.heap.size 0 rfl (C.map Go.Proofs.YtjafmnemobcipaaDoor.u8) _ (fun W' hW' => range_row (hW'.heap (unhide HY6) (by simp))) Tryd.underlying29 rfl (by rw [List.length_map, hcl]; exact Tryd.size_dig))
                  (by simp only [Act.put, List.setIfInBounds_toArray, List.set_cons_zero, List.set_cons_succ]; rfl) (by exact yieldsIf_load_mid (by rfl) _ _ rfl w3.heap.size 0 rfl (D.map Go.Proofs.YtjafmnemobcipaaDoor.u8) _ (fun W' hW' => range_row (hW'.heap (unhide HX6) (by simp))) Tryd.underlying29 rfl (by rw [List.length_map, hdl]; exact Tryd.size_dig))
                  (by simp only [Act.put, List.setIfInBounds_toArray, List.set_cons_zero, List.set_cons_succ]; rfl) (by exact Or.inl ⟨by rfl, fun W' hW' => run_neq 29 (.tmp 109) (.tmp 110) _ rfl (brow C) (brow D) rfl rfl W' _ (by kernel_rfl) (heq W')⟩)
                  (by simp only [Act.put, List.setIfInBounds_toArray, List.set_cons_zero, List.set_cons_succ]; rfl) (by exact Or.inl ⟨by rfl, fun W' hW' => by go_simp⟩)
                  (by simp only [Act.put, List.setIfInBounds_toArray, List.set_cons_zero, List.set_cons_succ]; rfl) (by exact Or.inl ⟨by rfl, fun W' hW' => by go_simp⟩)
                  (by simp only [Act.put, List.setIfInBounds_toArray, List.set_cons_zero, List.set_cons_succ]; rfl) (by exact Or.inl ⟨by rfl, fun W' hW' => by have h9 := hW'.cell c0 (by simp); go_simp⟩)
                  (by simp only [Act.put, List.setIfInBounds_toArray, List.set_cons_zero, List.set_cons_succ]; rfl) (by exact Or.inl ⟨by rfl, fun W' hW' => by go_simp⟩)
                  (by simp only [Act.put, List.setIfInBounds_toArray, List.set_cons_zero, List.set_cons_succ]; rfl) (by exact Or.inl ⟨by rfl, fun W' hW' => by have h9 := hW'.cell c0 (by simp); go_simp⟩)
                  (by simp only [Act.put, List.setIfInBounds_toArray, List.set_cons_zero, List.set_cons_succ]; rfl) (by exact Or.inl ⟨by rfl, fun W' hW' => by go_simp⟩)
                  (by simp only [Act.put, List.setIfInBounds_toArray, List.set_cons_zero, List.set_cons_succ]; rfl) (by exact Or.inl ⟨by rfl, fun W' hW' => by have h9 := hW'.cell c1 (by simp); go_simp⟩)
                  (by simp only [Act.put, List.setIfInBounds_toArray, List.set_cons_zero, List.set_cons_succ]; rfl) (by exact Or.inl ⟨by rfl, fun W' hW' => by go_simp⟩)
                  (by simp only [Act.put, List.setIfInBounds_toArray, List.set_cons_zero, List.set_cons_succ]; rfl) (by exact Or.inl ⟨by rfl, fun W' hW' => by have h9 := hW'.cell c2 (by simp); have h8 := hW'.cell c3 (by simp); go_simp⟩)
                  (by simp only [Act.put, List.setIfInBounds_toArray, List.set_cons_zero, List.set_cons_succ]; rfl) (by exact Or.inl ⟨by rfl, fun W' hW' => by go_simp⟩)
                  (by simp only [Act.put, List.setIfInBounds_toArray, List.set_cons_zero, List.set_cons_succ]; rfl) (by exact Or.inl ⟨by rfl, fun W' hW' => by have h9 := hW'.cell c0 (by simp); go_simp⟩)
                  (by simp only [Act.put, List.setIfInBounds_toArray, List.set_cons_zero, List.set_cons_succ]; rfl) (by exact Or.inl ⟨by rfl, fun W' hW' => by go_simp⟩)
                  (by simp only [Act.put, List.setIfInBounds_toArray, List.set_cons_zero, List.set_cons_succ]; rfl) (by exact Or.inl ⟨by rfl, fun W' hW' => by have h9 := hW'.cell c1 (by simp); go_simp⟩)
                  (by simp only [Act.put, List.setIfInBounds_toArray, List.set_cons_zero, List.set_cons_succ]; rfl) (by exact Or.inl ⟨by rfl, fun W' hW' => by have h9 := hW'.cell t0 (by simp); have h8 := hW'.cell t1 (by simp); go_simp⟩)
                  (Kept.refl [] Y6).drew
                  ⟨fun w' h => h, fun u4 w' h => h.2, fun u4 u8 w' h => h.2.2, fun u4 u8 u9 w' h => h.2⟩
                  (by rfl) (by intros; rfl) (by intros; rfl)
                  (by
                    intro w' i K hK
                    refine wp_callN rfl Tryd.call9 [.int .i64 q.z, .slice ka kn kc, .agg #[.slice (some ⟨b, o, none⟩) sn sc, .slice pa pn pc]] rfl (unhide HLA w' i) ?_
                    rintro e w2 ⟨⟨v', rfl, hv⟩, kv⟩
                    exact ⟨_, rfl, hK _ _ ⟨hv, i.trans kv (by simp)⟩⟩)
                  (by
                    rintro u4 w' ⟨h4, i⟩ K hK
                    refine wp_callN rfl Tryd.call9 [.int .i64 q.z, .slice ka kn kc, .agg #[.slice (some ⟨g0, 0, none⟩) sn c9, .slice pa2 pn2 pc2]] rfl (unhide HLB w' i) ?_
                    rintro e w2 ⟨⟨v', rfl, hv⟩, kv⟩
                    exact ⟨_, rfl, hK _ _ ⟨h4.old kv, hv, i.trans kv (by simp)⟩⟩)
                  (by
                    rintro u4 u8 w' ⟨h4, h8, i⟩ K hK
                    refine wp_callN rfl Tryd.call8 [.int .i64 q.z, u4, u8] rfl (unhide HLC w' i u4 u8 h4 h8) ?_
                    rintro e w2 ⟨rfl, kv⟩
                    exact ⟨_, rfl, hK _ _ ⟨rfl, i.trans kv (by simp)⟩⟩)
                  (by rintro u4 u8 u9 w' ⟨rfl, _⟩; exact Or.inl ⟨by rfl, fun W' hW' => by go_simp⟩)
                  (by rintro u4 u8 u9 w' ⟨rfl, _⟩; exact Or.inl ⟨by rfl, fun W' hW' => by go_simp⟩)
                  ?_
                rintro u4 u8 u9 Z2 ⟨rfl, kZ2⟩
                simp only [Act.put, List.setIfInBounds_toArray, List.set_cons_zero, List.set_cons_succ]
                have HB9 := hide ((((unhide HKZ).trans (unhide HK6) (by simp)).trans kZ2 (by simp)).below (Nat.le_refl _) (by simp) : Below w.heap.size w Z2)
                clear c0 c1 c2 c3 t0 t1 kZ2
                go_wp2_with fail
                go_ret
                exact ⟨rfl, unhide HB9⟩
              · rw [decide_eq_false hCD] at heq
                clear hCD HBI2 HIA2 HIB2
                refine wp_region_keep (by kernel_rfl) (by kernel_rfl) ?_
                refine wpQuiet_mid rfl 29 _ rfl w4.heap.size 0 rfl (C.map Go.Proofs.YtjafmnemobcipaaDoor.u8) _ (fun w' hw' => range_row (hw'.heap (unhide HY6) (by simp))) Tryd.underlying29 rfl (by rw [List.length_map, hcl]; exact Tryd.size_dig) ?_
                simp only [Act.put, List.setIfInBounds_toArray, List.set_cons_succ, List.set_cons_zero]
                refine wpQuiet_mid rfl 29 _ rfl w3.heap.size 0 rfl (D.map Go.Proofs.YtjafmnemobcipaaDoor.u8) _ (fun w' hw' => range_row (hw'.heap (unhide HX6) (by simp))) Tryd.underlying29 rfl (by rw [List.length_map, hdl]; exact Tryd.size_dig) ?_
                simp only [Act.put, List.setIfInBounds_toArray, List.set_cons_succ, List.set_cons_zero]
                refine wpQuiet_val rfl (.bool true) (fun w' hw' => run_neq 29 (.tmp 109) (.tmp 110) _ rfl (brow C) (brow D) rfl rfl w' _ (by kernel_rfl) (heq w')) ?_
                simp only [Act.put, List.setIfInBounds_toArray, List.set_cons_succ, List.set_cons_zero]
                have hne : ∀ p : Prop, (∀ w', Kept [] Y6 w' → p) = p := fun p => propext ⟨fun h => h Y6 (Kept.refl [] Y6), fun h _ _ => h⟩
                repeat (go_big_quiet_step (fail))
                refine wpQuiet_nil ?_
                intro Z2 kZ2
                have HB9 := hide ((((unhide HKZ).trans (unhide HK6) (by simp)).trans kZ2 (by simp)).below (Nat.le_refl _) (by simp) : Below w.heap.size w Z2)
                clear c0 c1 c2 c3 t0 t1 kZ2 hne
                go_wp2_with fail
                go_ret
                exact ⟨rfl, unhide HB9⟩
            · have hE' : ¬ (E : Int) = 0 := by omega
              clear HBI HIA HIB HWD
              go_wp2_with (rw [zb32]; refine wpList_store_row rfl 29 _ _ rfl w4.heap.size (brow C) rfl rfl _ (zb 32) (heap_alloc_new _ _) (unhide HSC) (by rw [zb_size, brow_size, hcl]) (brow_one _) ?_; rw [hY])
              go_ret
              exact ⟨by simp, unhide HB5⟩
        · have hk' : (m8 : Int) ≤ (k : Int) := by omega
          go_wp2
          go_ret
          exact ⟨rfl, unhide HB1⟩
    · have hs' : (sn : Int) ≤ (s : Int) := by omega
      go_wp2
      go_ret
      exact ⟨rfl, unhide HB1⟩
end Go.Proofs.YtjafmnemobcipaaDoor
