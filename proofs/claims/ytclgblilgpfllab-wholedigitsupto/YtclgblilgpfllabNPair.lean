/-
  'x, y := f(.., a), f(.., b)': reads, two calls one behind the other, assigns; the reads may come up behind the first call. One law for all orders.
-/
import Derived.Test.YtclgblilgpfllabNRef
import Derived.Deep.RegionHeld3
namespace Go.Proofs.Ytclgblilgpfllab
open Go Go.RowKit Go.BigFrame
set_option linter.unusedVariables false
set_option linter.unusedSimpArgs false
section
variable {P : Program} {Q : Exit → Act → World → Prop}
theorem wp_pair8 {id : Nat} {o0 o1 o2 o3 o4 o5 o6 o7 : Oper} {a : Act} {w : World} (S : World → Prop) (hm : P.follows .mixedOrders = true) (hs : Region.noSelect #[o0, o1, o2, o3, o4, o5, o6, o7] = true)
    (f0 : Region.free .any #[o0, o1, o2, o3, o4, o5, o6, o7] #[false, false, false, false, false, false, false, false] 0 = true) (r0 : (Region.ready .any #[o0, o1, o2, o3, o4, o5, o6, o7] #[false, false, false, false, false, false, false, false]).contains 0 = true)
    (f1 : Region.free .any #[o0, o1, o2, o3, o4, o5, o6, o7] #[true, false, false, false, false, false, false, false] 1 = true) (r1 : (Region.ready .any #[o0, o1, o2, o3, o4, o5, o6, o7] #[true, false, false, false, false, false, false, false]).contains 1 = true)
    (f3 : Region.free .any #[o0, o1, o2, o3, o4, o5, o6, o7] #[true, true, false, false, false, false, false, false] 3 = true) (r3 : (Region.ready .any #[o0, o1, o2, o3, o4, o5, o6, o7] #[true, true, false, false, false, false, false, false]).contains 3 = true)
    (f4 : Region.free .any #[o0, o1, o2, o3, o4, o5, o6, o7] #[true, true, false, true, false, false, false, false] 4 = true) (r4 : (Region.ready .any #[o0, o1, o2, o3, o4, o5, o6, o7] #[true, true, false, true, false, false, false, false]).contains 4 = true)
    (r2 : Region.ready .any #[o0, o1, o2, o3, o4, o5, o6, o7] #[true, true, false, true, true, false, false, false] = [2])
    (r5 : Region.ready .any #[o0, o1, o2, o3, o4, o5, o6, o7] #[true, true, true, true, true, false, false, false] = [5])
    (f6 : Region.free .any #[o0, o1, o2, o3, o4, o5, o6, o7] #[true, true, true, true, true, true, false, false] 6 = true) (r6 : (Region.ready .any #[o0, o1, o2, o3, o4, o5, o6, o7] #[true, true, true, true, true, true, false, false]).contains 6 = true)
    (f7 : Region.free .any #[o0, o1, o2, o3, o4, o5, o6, o7] #[true, true, true, true, true, true, true, false] 7 = true) (r7 : (Region.ready .any #[o0, o1, o2, o3, o4, o5, o6, o7] #[true, true, true, true, true, true, true, false]).contains 7 = true)
    (rr : Region.ready .any #[o0, o1, o2, o3, o4, o5, o6, o7] #[true, true, true, true, true, true, true, true] = [])
    (g1 : o2.guard = none) (g2 : o5.guard = none) (hS : S w.drew) (v0 v1 v2 v3 : Value) (A0 A1 A2 A3 : Act)
    (p0 : a.put o0.dst v0 = A0) (p1 : A0.put o1.dst v1 = A1) (p2 : A1.put o3.dst v2 = A2) (p3 : A2.put o4.dst v3 = A3) 
    (hy0 : YieldsIf P #[o0, o1, o2, o3, o4, o5, o6, o7] S o0 v0 a) (hy1 : YieldsIf P #[o0, o1, o2, o3, o4, o5, o6, o7] S o1 v1 A0) (hy2 : YieldsIf P #[o0, o1, o2, o3, o4, o5, o6, o7] S o3 v2 A1) (hy3 : YieldsIf P #[o0, o1, o2, o3, o4, o5, o6, o7] S o4 v3 A2) 
    (R1 : Value → World → Prop) (k1 : ∀ K : Act → World → Prop, (∀ u w1, R1 u w1 → K (A3.put o2.dst u) w1) → o2.wp P A3 w.drew K (NoPanic Q)) (S1 : ∀ u w1, R1 u w1 → S w1)
    (R2 : Value → World → Value → World → Prop) (k2 : ∀ u w1, R1 u w1 → ∀ K : Act → World → Prop, (∀ v w2, R2 u w1 v w2 → K ((A3.put o2.dst u).put o5.dst v) w2) → o5.wp P (A3.put o2.dst u) w1 K (NoPanic Q)) (S2 : ∀ u w1 v w2, R1 u w1 → R2 u w1 v w2 → S w2)
    (hl6 : ∀ u w1 v w2, R1 u w1 → R2 u w1 v w2 → YieldsIf P #[o0, o1, o2, o3, o4, o5, o6, o7] S o6 u ((A3.put o2.dst u).put o5.dst v))
    (hl7 : ∀ u w1 v w2, R1 u w1 → R2 u w1 v w2 → YieldsIf P #[o0, o1, o2, o3, o4, o5, o6, o7] S o7 v (((A3.put o2.dst u).put o5.dst v).put o6.dst u))
    (h : ∀ u w1 v w2, R1 u w1 → R2 u w1 v w2 → Q .normal ((((A3.put o2.dst u).put o5.dst v).put o6.dst u).put o7.dst v) w2) :
    (Code.region id #[o0, o1, o2, o3, o4, o5, o6, o7] true).wp P Q a w := by
  subst p0 p1 p2 p3
  refine wp_region_noPanic ?_
  refine wp_region_held_drew (S := S) hm hS (fun hH => ?_)
  show wpAnyH P .any #[o0, o1, o2, o3, o4, o5, o6, o7] (NoPanic Q) S 8 #[false, false, false, false, false, false, false, false] a w.drew
  refine wpAnyH_take (i := 0) (oi := o0) rfl hs f0 r0 (fun _ _ _ h => h) hy0 hS ?_
  refine wpAnyH_take (i := 1) (oi := o1) rfl hs f1 r1 (fun _ _ _ h => h) hy1 hS ?_
  refine wpAnyH_take (i := 3) (oi := o3) rfl hs f3 r3 (fun _ _ _ h => h) hy2 hS ?_
  refine wpAnyH_take (i := 4) (oi := o4) rfl hs f4 r4 (fun _ _ _ h => h) hy3 hS ?_
  refine wpAnyH_ready (rs := [2]) r2 (by simp) (AllReadyH.cons (o := o2) rfl (fun K hK => ?_) AllReadyH.nil)
  have wa : ∀ y, Region.wanted o2 y = true := fun y => by unfold Region.wanted; rw [g1]
  rw [if_pos (wa _)]
  refine k1 K (fun u w1 h1 => hK.out _ _ (S1 u w1 h1) (fun _ => ?_))
  refine wpAnyH_ready (rs := [5]) r5 (by simp) (AllReadyH.cons (o := o5) rfl (fun K hK => ?_) AllReadyH.nil)
  have wb : ∀ y, Region.wanted o5 y = true := fun y => by unfold Region.wanted; rw [g2]
  rw [if_pos (wb _)]
  refine k2 u w1 h1 K (fun v w2 h2 => hK.out _ _ (S2 u w1 v w2 h1 h2) (fun _ => ?_))
  refine wpAnyH_take (i := 6) (oi := o6) rfl hs f6 r6 (fun _ _ _ h => h) (hl6 u w1 v w2 h1 h2) (S2 u w1 v w2 h1 h2) ?_
  refine wpAnyH_take (i := 7) (oi := o7) rfl hs f7 r7 (fun _ _ _ h => h) (hl7 u w1 v w2 h1 h2) (S2 u w1 v w2 h1 h2) ?_
  exact ⟨rr, NoPanic.normal (h u w1 v w2 h1 h2)⟩
end

end Go.Proofs.Ytclgblilgpfllab
