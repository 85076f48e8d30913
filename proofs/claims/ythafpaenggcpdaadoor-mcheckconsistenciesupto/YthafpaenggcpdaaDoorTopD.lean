import Derived.Test.YthafpaenggcpdaaDoorTopC
import Derived.Deep.RegionHeld3
/-
  The two regions of the law of Consistency, by genask.py's laws.
-/
namespace Go.Proofs.YthafpaenggcpdaaDoor
open Go Go.RowKit Go.BigFrame
set_option linter.unusedVariables false
set_option linter.unusedSimpArgs false
section
variable {P : Program} {Q : Exit → Act → World → Prop}
theorem wp_con12 {id : Nat} {o0 o1 o2 o3 o4 o5 o6 o7 o8 o9 o10 o11 o12 o13 o14 : Oper} {a : Act} {w : World} (S : World → Prop) (hm : P.follows .mixedOrders = true) (hs : Region.noSelect #[o0, o1, o2, o3, o4, o5, o6, o7, o8, o9, o10, o11, o12, o13, o14] = true)
    (f0 : Region.free .any #[o0, o1, o2, o3, o4, o5, o6, o7, o8, o9, o10, o11, o12, o13, o14] #[false, false, false, false, false, false, false, false, false, false, false, false, false, false, false] 0 = true) (r0 : (Region.ready .any #[o0, o1, o2, o3, o4, o5, o6, o7, o8, o9, o10, o11, o12, o13, o14] #[false, false, false, false, false, false, false, false, false, false, false, false, false, false, false]).contains 0 = true)
    (f1 : Region.free .any #[o0, o1, o2, o3, o4, o5, o6, o7, o8, o9, o10, o11, o12, o13, o14] #[true, false, false, false, false, false, false, false, false, false, false, false, false, false, false] 1 = true) (r1 : (Region.ready .any #[o0, o1, o2, o3, o4, o5, o6, o7, o8, o9, o10, o11, o12, o13, o14] #[true, false, false, false, false, false, false, false, false, false, false, false, false, false, false]).contains 1 = true)
    (f2 : Region.free .any #[o0, o1, o2, o3, o4, o5, o6, o7, o8, o9, o10, o11, o12, o13, o14] #[true, true, false, false, false, false, false, false, false, false, false, false, false, false, false] 2 = true) (r2 : (Region.ready .any #[o0, o1, o2, o3, o4, o5, o6, o7, o8, o9, o10, o11, o12, o13, o14] #[true, true, false, false, false, false, false, false, false, false, false, false, false, false, false]).contains 2 = true)
    (f3 : Region.free .any #[o0, o1, o2, o3, o4, o5, o6, o7, o8, o9, o10, o11, o12, o13, o14] #[true, true, true, false, false, false, false, false, false, false, false, false, false, false, false] 3 = true) (r3 : (Region.ready .any #[o0, o1, o2, o3, o4, o5, o6, o7, o8, o9, o10, o11, o12, o13, o14] #[true, true, true, false, false, false, false, false, false, false, false, false, false, false, false]).contains 3 = true)
    (f4 : Region.free .any #[o0, o1, o2, o3, o4, o5, o6, o7, o8, o9, o10, o11, o12, o13, o14] #[true, true, true, true, false, false, false, false, false, false, false, false, false, false, false] 4 = true) (r4 : (Region.ready .any #[o0, o1, o2, o3, o4, o5, o6, o7, o8, o9, o10, o11, o12, o13, o14] #[true, true, true, true, false, false, false, false, false, false, false, false, false, false, false]).contains 4 = true)
    (f5 : Region.free .any #[o0, o1, o2, o3, o4, o5, o6, o7, o8, o9, o10, o11, o12, o13, o14] #[true, true, true, true, true, false, false, false, false, false, false, false, false, false, false] 5 = true) (r5 : (Region.ready .any #[o0, o1, o2, o3, o4, o5, o6, o7, o8, o9, o10, o11, o12, o13, o14] #[true, true, true, true, true, false, false, false, false, false, false, false, false, false, false]).contains 5 = true)
    (f6 : Region.free .any #[o0, o1, o2, o3, o4, o5, o6, o7, o8, o9, o10, o11, o12, o13, o14] #[true, true, true, true, true, true, false, false, false, false, false, false, false, false, false] 6 = true) (r6 : (Region.ready .any #[o0, o1, o2, o3, o4, o5, o6, o7, o8, o9, o10, o11, o12, o13, o14] #[true, true, true, true, true, true, false, false, false, false, false, false, false, false, false]).contains 6 = true)
    (f7 : Region.free .any #[o0, o1, o2, o3, o4, o5, o6, o7, o8, o9, o10, o11, o12, o13, o14] #[true, true, true, true, true, true, true, false, false, false, false, false, false, false, false] 7 = true) (r7 : (Region.ready .any #[o0, o1, o2, o3, o4, o5, o6, o7, o8, o9, o10, o11, o12, o13, o14] #[true, true, true, true, true, true, true, false, false, false, false, false, false, false, false]).contains 7 = true)
    (f8 : Region.free .any #[o0, o1, o2, o3, o4, o5, o6, o7, o8, o9, o10, o11, o12, o13, o14] #[true, true, true, true, true, true, true, true, false, false, false, false, false, false, false] 8 = true) (r8 : (Region.ready .any #[o0, o1, o2, o3, o4, o5, o6, o7, o8, o9, o10, o11, o12, o13, o14] #[true, true, true, true, true, true, true, true, false, false, false, false, false, false, false]).contains 8 = true)
    (f9 : Region.free .any #[o0, o1, o2, o3, o4, o5, o6, o7, o8, o9, o10, o11, o12, o13, o14] #[true, true, true, true, true, true, true, true, true, false, false, false, false, false, false] 9 = true) (r9 : (Region.ready .any #[o0, o1, o2, o3, o4, o5, o6, o7, o8, o9, o10, o11, o12, o13, o14] #[true, true, true, true, true, true, true, true, true, false, false, false, false, false, false]).contains 9 = true)
    (f10 : Region.free .any #[o0, o1, o2, o3, o4, o5, o6, o7, o8, o9, o10, o11, o12, o13, o14] #[true, true, true, true, true, true, true, true, true, true, false, false, false, false, false] 10 = true) (r10 : (Region.ready .any #[o0, o1, o2, o3, o4, o5, o6, o7, o8, o9, o10, o11, o12, o13, o14] #[true, true, true, true, true, true, true, true, true, true, false, false, false, false, false]).contains 10 = true)
    (f11 : Region.free .any #[o0, o1, o2, o3, o4, o5, o6, o7, o8, o9, o10, o11, o12, o13, o14] #[true, true, true, true, true, true, true, true, true, true, true, false, false, false, false] 11 = true) (r11 : (Region.ready .any #[o0, o1, o2, o3, o4, o5, o6, o7, o8, o9, o10, o11, o12, o13, o14] #[true, true, true, true, true, true, true, true, true, true, true, false, false, false, false]).contains 11 = true)
    (r12 : Region.ready .any #[o0, o1, o2, o3, o4, o5, o6, o7, o8, o9, o10, o11, o12, o13, o14] #[true, true, true, true, true, true, true, true, true, true, true, true, false, false, false] = [12])
    (r13 : Region.ready .any #[o0, o1, o2, o3, o4, o5, o6, o7, o8, o9, o10, o11, o12, o13, o14] #[true, true, true, true, true, true, true, true, true, true, true, true, true, false, false] = [13])
    (f14 : Region.free .any #[o0, o1, o2, o3, o4, o5, o6, o7, o8, o9, o10, o11, o12, o13, o14] #[true, true, true, true, true, true, true, true, true, true, true, true, true, true, false] 14 = true) (r14 : (Region.ready .any #[o0, o1, o2, o3, o4, o5, o6, o7, o8, o9, o10, o11, o12, o13, o14] #[true, true, true, true, true, true, true, true, true, true, true, true, true, true, false]).contains 14 = true)
    (rr : Region.ready .any #[o0, o1, o2, o3, o4, o5, o6, o7, o8, o9, o10, o11, o12, o13, o14] #[true, true, true, true, true, true, true, true, true, true, true, true, true, true, true] = [])
    (g1 : o12.guard = none) (g2 : o13.guard = none) (hS : S w.drew) (v0 v1 v2 v3 v4 v5 v6 v7 v8 v9 v10 v11 : Value) (A0 A1 A2 A3 A4 A5 A6 A7 A8 A9 A10 A11 : Act)
    (p0 : a.put o0.dst v0 = A0) (p1 : A0.put o1.dst v1 = A1) (p2 : A1.put o2.dst v2 = A2) (p3 : A2.put o3.dst v3 = A3) (p4 : A3.put o4.dst v4 = A4) (p5 : A4.put o5.dst v5 = A5) (p6 : A5.put o6.dst v6 = A6) (p7 : A6.put o7.dst v7 = A7) (p8 : A7.put o8.dst v8 = A8) (p9 : A8.put o9.dst v9 = A9) (p10 : A9.put o10.dst v10 = A10) (p11 : A10.put o11.dst v11 = A11) 
    (hy0 : YieldsIf P #[o0, o1, o2, o3, o4, o5, o6, o7, o8, o9, o10, o11, o12, o13, o14] S o0 v0 a) (hy1 : YieldsIf P #[o0, o1, o2, o3, o4, o5, o6, o7, o8, o9, o10, o11, o12, o13, o14] S o1 v1 A0) (hy2 : YieldsIf P #[o0, o1, o2, o3, o4, o5, o6, o7, o8, o9, o10, o11, o12, o13, o14] S o2 v2 A1) (hy3 : YieldsIf P #[o0, o1, o2, o3, o4, o5, o6, o7, o8, o9, o10, o11, o12, o13, o14] S o3 v3 A2) (hy4 : YieldsIf P #[o0, o1, o2, o3, o4, o5, o6, o7, o8, o9, o10, o11, o12, o13, o14] S o4 v4 A3) (hy5 : YieldsIf P #[o0, o1, o2, o3, o4, o5, o6, o7, o8, o9, o10, o11, o12, o13, o14] S o5 v5 A4) (hy6 : YieldsIf P #[o0, o1, o2, o3, o4, o5, o6, o7, o8, o9, o10, o11, o12, o13, o14] S o6 v6 A5) (hy7 : YieldsIf P #[o0, o1, o2, o3, o4, o5, o6, o7, o8, o9, o10, o11, o12, o13, o14] S o7 v7 A6) (hy8 : YieldsIf P #[o0, o1, o2, o3, o4, o5, o6, o7, o8, o9, o10, o11, o12, o13, o14] S o8 v8 A7) (hy9 : YieldsIf P #[o0, o1, o2, o3, o4, o5, o6, o7, o8, o9, o10, o11, o12, o13, o14] S o9 v9 A8) (hy10 : YieldsIf P #[o0, o1, o2, o3, o4, o5, o6, o7, o8, o9, o10, o11, o12, o13, o14] S o10 v10 A9) (hy11 : YieldsIf P #[o0, o1, o2, o3, o4, o5, o6, o7, o8, o9, o10, o11, o12, o13, o14] S o11 v11 A10) 
    (R1 : Value → World → Prop) (k1 : ∀ K : Act → World → Prop, (∀ u w1, R1 u w1 → K (A11.put o12.dst u) w1) → o12.wp P A11 w.drew K (NoPanic Q)) (S1 : ∀ u w1, R1 u w1 → S w1)
    (R2 : Value → World → Value → World → Prop) (k2 : ∀ u w1, R1 u w1 → ∀ K : Act → World → Prop, (∀ v w2, R2 u w1 v w2 → K ((A11.put o12.dst u).put o13.dst v) w2) → o13.wp P (A11.put o12.dst u) w1 K (NoPanic Q)) (S2 : ∀ u w1 v w2, R1 u w1 → R2 u w1 v w2 → S w2)
    (hyl : ∀ u w1 v w2, R1 u w1 → R2 u w1 v w2 → YieldsIf P #[o0, o1, o2, o3, o4, o5, o6, o7, o8, o9, o10, o11, o12, o13, o14] S o14 v ((A11.put o12.dst u).put o13.dst v))
    (h : ∀ u w1 v w2, R1 u w1 → R2 u w1 v w2 → Q .normal (((A11.put o12.dst u).put o13.dst v).put o14.dst v) w2) :
    (Code.region id #[o0, o1, o2, o3, o4, o5, o6, o7, o8, o9, o10, o11, o12, o13, o14] true).wp P Q a w := by
  subst p0 p1 p2 p3 p4 p5 p6 p7 p8 p9 p10 p11
  refine wp_region_noPanic ?_
  refine wp_region_held_drew (S := S) hm hS (fun hH => ?_)
  show wpAnyH P .any #[o0, o1, o2, o3, o4, o5, o6, o7, o8, o9, o10, o11, o12, o13, o14] (NoPanic Q) S 15 #[false, false, false, false, false, false, false, false, false, false, false, false, false, false, false] a w.drew
  refine wpAnyH_take (i := 0) (oi := o0) rfl hs f0 r0 (fun _ _ _ h => h) hy0 hS ?_
  refine wpAnyH_take (i := 1) (oi := o1) rfl hs f1 r1 (fun _ _ _ h => h) hy1 hS ?_
  refine wpAnyH_take (i := 2) (oi := o2) rfl hs f2 r2 (fun _ _ _ h => h) hy2 hS ?_
  refine wpAnyH_take (i := 3) (oi := o3) rfl hs f3 r3 (fun _ _ _ h => h) hy3 hS ?_
  refine wpAnyH_take (i := 4) (oi := o4) rfl hs f4 r4 (fun _ _ _ h => h) hy4 hS ?_
  refine wpAnyH_take (i := 5) (oi := o5) rfl hs f5 r5 (fun _ _ _ h => h) hy5 hS ?_
  refine wpAnyH_take (i := 6) (oi := o6) rfl hs f6 r6 (fun _ _ _ h => h) hy6 hS ?_
  refine wpAnyH_take (i := 7) (oi := o7) rfl hs f7 r7 (fun _ _ _ h => h) hy7 hS ?_
  refine wpAnyH_take (i := 8) (oi := o8) rfl hs f8 r8 (fun _ _ _ h => h) hy8 hS ?_
  refine wpAnyH_take (i := 9) (oi := o9) rfl hs f9 r9 (fun _ _ _ h => h) hy9 hS ?_
  refine wpAnyH_take (i := 10) (oi := o10) rfl hs f10 r10 (fun _ _ _ h => h) hy10 hS ?_
  refine wpAnyH_take (i := 11) (oi := o11) rfl hs f11 r11 (fun _ _ _ h => h) hy11 hS ?_
  refine wpAnyH_ready (rs := [12]) r12 (by simp) (AllReadyH.cons (o := o12) rfl (fun K hK => ?_) AllReadyH.nil)
  have wa : ∀ y, Region.wanted o12 y = true := fun y => by unfold Region.wanted; rw [g1]
  rw [if_pos (wa _)]
  refine k1 K (fun u w1 h1 => hK.out _ _ (S1 u w1 h1) (fun _ => ?_))
  refine wpAnyH_ready (rs := [13]) r13 (by simp) (AllReadyH.cons (o := o13) rfl (fun K hK => ?_) AllReadyH.nil)
  have wb : ∀ y, Region.wanted o13 y = true := fun y => by unfold Region.wanted; rw [g2]
  rw [if_pos (wb _)]
  refine k2 u w1 h1 K (fun v w2 h2 => hK.out _ _ (S2 u w1 v w2 h1 h2) (fun _ => ?_))
  refine wpAnyH_take (i := 14) (oi := o14) rfl hs f14 r14 (fun _ _ _ h => h) (hyl u w1 v w2 h1 h2) (S2 u w1 v w2 h1 h2) ?_
  exact ⟨rr, NoPanic.normal (h u w1 v w2 h1 h2)⟩
theorem wp_con10 {id : Nat} {o0 o1 o2 o3 o4 o5 o6 o7 o8 o9 o10 o11 o12 : Oper} {a : Act} {w : World} (S : World → Prop) (hm : P.follows .mixedOrders = true) (hs : Region.noSelect #[o0, o1, o2, o3, o4, o5, o6, o7, o8, o9, o10, o11, o12] = true)
    (f0 : Region.free .any #[o0, o1, o2, o3, o4, o5, o6, o7, o8, o9, o10, o11, o12] #[false, false, false, false, false, false, false, false, false, false, false, false, false] 0 = true) (r0 : (Region.ready .any #[o0, o1, o2, o3, o4, o5, o6, o7, o8, o9, o10, o11, o12] #[false, false, false, false, false, false, false, false, false, false, false, false, false]).contains 0 = true)
    (f1 : Region.free .any #[o0, o1, o2, o3, o4, o5, o6, o7, o8, o9, o10, o11, o12] #[true, false, false, false, false, false, false, false, false, false, false, false, false] 1 = true) (r1 : (Region.ready .any #[o0, o1, o2, o3, o4, o5, o6, o7, o8, o9, o10, o11, o12] #[true, false, false, false, false, false, false, false, false, false, false, false, false]).contains 1 = true)
    (f2 : Region.free .any #[o0, o1, o2, o3, o4, o5, o6, o7, o8, o9, o10, o11, o12] #[true, true, false, false, false, false, false, false, false, false, false, false, false] 2 = true) (r2 : (Region.ready .any #[o0, o1, o2, o3, o4, o5, o6, o7, o8, o9, o10, o11, o12] #[true, true, false, false, false, false, false, false, false, false, false, false, false]).contains 2 = true)
    (f3 : Region.free .any #[o0, o1, o2, o3, o4, o5, o6, o7, o8, o9, o10, o11, o12] #[true, true, true, false, false, false, false, false, false, false, false, false, false] 3 = true) (r3 : (Region.ready .any #[o0, o1, o2, o3, o4, o5, o6, o7, o8, o9, o10, o11, o12] #[true, true, true, false, false, false, false, false, false, false, false, false, false]).contains 3 = true)
    (f4 : Region.free .any #[o0, o1, o2, o3, o4, o5, o6, o7, o8, o9, o10, o11, o12] #[true, true, true, true, false, false, false, false, false, false, false, false, false] 4 = true) (r4 : (Region.ready .any #[o0, o1, o2, o3, o4, o5, o6, o7, o8, o9, o10, o11, o12] #[true, true, true, true, false, false, false, false, false, false, false, false, false]).contains 4 = true)
    (f5 : Region.free .any #[o0, o1, o2, o3, o4, o5, o6, o7, o8, o9, o10, o11, o12] #[true, true, true, true, true, false, false, false, false, false, false, false, false] 5 = true) (r5 : (Region.ready .any #[o0, o1, o2, o3, o4, o5, o6, o7, o8, o9, o10, o11, o12] #[true, true, true, true, true, false, false, false, false, false, false, false, false]).contains 5 = true)
    (f6 : Region.free .any #[o0, o1, o2, o3, o4, o5, o6, o7, o8, o9, o10, o11, o12] #[true, true, true, true, true, true, false, false, false, false, false, false, false] 6 = true) (r6 : (Region.ready .any #[o0, o1, o2, o3, o4, o5, o6, o7, o8, o9, o10, o11, o12] #[true, true, true, true, true, true, false, false, false, false, false, false, false]).contains 6 = true)
    (f7 : Region.free .any #[o0, o1, o2, o3, o4, o5, o6, o7, o8, o9, o10, o11, o12] #[true, true, true, true, true, true, true, false, false, false, false, false, false] 7 = true) (r7 : (Region.ready .any #[o0, o1, o2, o3, o4, o5, o6, o7, o8, o9, o10, o11, o12] #[true, true, true, true, true, true, true, false, false, false, false, false, false]).contains 7 = true)
    (f8 : Region.free .any #[o0, o1, o2, o3, o4, o5, o6, o7, o8, o9, o10, o11, o12] #[true, true, true, true, true, true, true, true, false, false, false, false, false] 8 = true) (r8 : (Region.ready .any #[o0, o1, o2, o3, o4, o5, o6, o7, o8, o9, o10, o11, o12] #[true, true, true, true, true, true, true, true, false, false, false, false, false]).contains 8 = true)
    (f9 : Region.free .any #[o0, o1, o2, o3, o4, o5, o6, o7, o8, o9, o10, o11, o12] #[true, true, true, true, true, true, true, true, true, false, false, false, false] 9 = true) (r9 : (Region.ready .any #[o0, o1, o2, o3, o4, o5, o6, o7, o8, o9, o10, o11, o12] #[true, true, true, true, true, true, true, true, true, false, false, false, false]).contains 9 = true)
    (r10 : Region.ready .any #[o0, o1, o2, o3, o4, o5, o6, o7, o8, o9, o10, o11, o12] #[true, true, true, true, true, true, true, true, true, true, false, false, false] = [10])
    (r11 : Region.ready .any #[o0, o1, o2, o3, o4, o5, o6, o7, o8, o9, o10, o11, o12] #[true, true, true, true, true, true, true, true, true, true, true, false, false] = [11])
    (f12 : Region.free .any #[o0, o1, o2, o3, o4, o5, o6, o7, o8, o9, o10, o11, o12] #[true, true, true, true, true, true, true, true, true, true, true, true, false] 12 = true) (r12 : (Region.ready .any #[o0, o1, o2, o3, o4, o5, o6, o7, o8, o9, o10, o11, o12] #[true, true, true, true, true, true, true, true, true, true, true, true, false]).contains 12 = true)
    (rr : Region.ready .any #[o0, o1, o2, o3, o4, o5, o6, o7, o8, o9, o10, o11, o12] #[true, true, true, true, true, true, true, true, true, true, true, true, true] = [])
    (g1 : o10.guard = none) (g2 : o11.guard = none) (hS : S w.drew) (v0 v1 v2 v3 v4 v5 v6 v7 v8 v9 : Value) (A0 A1 A2 A3 A4 A5 A6 A7 A8 A9 : Act)
    (p0 : a.put o0.dst v0 = A0) (p1 : A0.put o1.dst v1 = A1) (p2 : A1.put o2.dst v2 = A2) (p3 : A2.put o3.dst v3 = A3) (p4 : A3.put o4.dst v4 = A4) (p5 : A4.put o5.dst v5 = A5) (p6 : A5.put o6.dst v6 = A6) (p7 : A6.put o7.dst v7 = A7) (p8 : A7.put o8.dst v8 = A8) (p9 : A8.put o9.dst v9 = A9) 
    (hy0 : YieldsIf P #[o0, o1, o2, o3, o4, o5, o6, o7, o8, o9, o10, o11, o12] S o0 v0 a) (hy1 : YieldsIf P #[o0, o1, o2, o3, o4, o5, o6, o7, o8, o9, o10, o11, o12] S o1 v1 A0) (hy2 : YieldsIf P #[o0, o1, o2, o3, o4, o5, o6, o7, o8, o9, o10, o11, o12] S o2 v2 A1) (hy3 : YieldsIf P #[o0, o1, o2, o3, o4, o5, o6, o7, o8, o9, o10, o11, o12] S o3 v3 A2) (hy4 : YieldsIf P #[o0, o1, o2, o3, o4, o5, o6, o7, o8, o9, o10, o11, o12] S o4 v4 A3) (hy5 : YieldsIf P #[o0, o1, o2, o3, o4, o5, o6, o7, o8, o9, o10, o11, o12] S o5 v5 A4) (hy6 : YieldsIf P #[o0, o1, o2, o3, o4, o5, o6, o7, o8, o9, o10, o11, o12] S o6 v6 A5) (hy7 : YieldsIf P #[o0, o1, o2, o3, o4, o5, o6, o7, o8, o9, o10, o11, o12] S o7 v7 A6) (hy8 : YieldsIf P #[o0, o1, o2, o3, o4, o5, o6, o7, o8, o9, o10, o11, o12] S o8 v8 A7) (hy9 : YieldsIf P #[o0, o1, o2, o3, o4, o5, o6, o7, o8, o9, o10, o11, o12] S o9 v9 A8) 
    (R1 : Value → World → Prop) (k1 : ∀ K : Act → World → Prop, (∀ u w1, R1 u w1 → K (A9.put o10.dst u) w1) → o10.wp P A9 w.drew K (NoPanic Q)) (S1 : ∀ u w1, R1 u w1 → S w1)
    (R2 : Value → World → Value → World → Prop) (k2 : ∀ u w1, R1 u w1 → ∀ K : Act → World → Prop, (∀ v w2, R2 u w1 v w2 → K ((A9.put o10.dst u).put o11.dst v) w2) → o11.wp P (A9.put o10.dst u) w1 K (NoPanic Q)) (S2 : ∀ u w1 v w2, R1 u w1 → R2 u w1 v w2 → S w2)
    (hyl : ∀ u w1 v w2, R1 u w1 → R2 u w1 v w2 → YieldsIf P #[o0, o1, o2, o3, o4, o5, o6, o7, o8, o9, o10, o11, o12] S o12 v ((A9.put o10.dst u).put o11.dst v))
    (h : ∀ u w1 v w2, R1 u w1 → R2 u w1 v w2 → Q .normal (((A9.put o10.dst u).put o11.dst v).put o12.dst v) w2) :
    (Code.region id #[o0, o1, o2, o3, o4, o5, o6, o7, o8, o9, o10, o11, o12] true).wp P Q a w := by
  subst p0 p1 p2 p3 p4 p5 p6 p7 p8 p9
  refine wp_region_noPanic ?_
  refine wp_region_held_drew (S := S) hm hS (fun hH => ?_)
  show wpAnyH P .any #[o0, o1, o2, o3, o4, o5, o6, o7, o8, o9, o10, o11, o12] (NoPanic Q) S 13 #[false, false, false, false, false, false, false, false, false, false, false, false, false] a w.drew
  refine wpAnyH_take (i := 0) (oi := o0) rfl hs f0 r0 (fun _ _ _ h => h) hy0 hS ?_
  refine wpAnyH_take (i := 1) (oi := o1) rfl hs f1 r1 (fun _ _ _ h => h) hy1 hS ?_
  refine wpAnyH_take (i := 2) (oi := o2) rfl hs f2 r2 (fun _ _ _ h => h) hy2 hS ?_
  refine wpAnyH_take (i := 3) (oi := o3) rfl hs f3 r3 (fun _ _ _ h => h) hy3 hS ?_
  refine wpAnyH_take (i := 4) (oi := o4) rfl hs f4 r4 (fun _ _ _ h => h) hy4 hS ?_
  refine wpAnyH_take (i := 5) (oi := o5) rfl hs f5 r5 (fun _ _ _ h => h) hy5 hS ?_
  refine wpAnyH_take (i := 6) (oi := o6) rfl hs f6 r6 (fun _ _ _ h => h) hy6 hS ?_
  refine wpAnyH_take (i := 7) (oi := o7) rfl hs f7 r7 (fun _ _ _ h => h) hy7 hS ?_
  refine wpAnyH_take (i := 8) (oi := o8) rfl hs f8 r8 (fun _ _ _ h => h) hy8 hS ?_
  refine wpAnyH_take (i := 9) (oi := o9) rfl hs f9 r9 (fun _ _ _ h => h) hy9 hS ?_
  refine wpAnyH_ready (rs := [10]) r10 (by simp) (AllReadyH.cons (o := o10) rfl (fun K hK => ?_) AllReadyH.nil)
  have wa : ∀ y, Region.wanted o10 y = true := fun y => by unfold Region.wanted; rw [g1]
  rw [if_pos (wa _)]
  refine k1 K (fun u w1 h1 => hK.out _ _ (S1 u w1 h1) (fun _ => ?_))
  refine wpAnyH_ready (rs := [11]) r11 (by simp) (AllReadyH.cons (o := o11) rfl (fun K hK => ?_) AllReadyH.nil)
  have wb : ∀ y, Region.wanted o11 y = true := fun y => by unfold Region.wanted; rw [g2]
  rw [if_pos (wb _)]
  refine k2 u w1 h1 K (fun v w2 h2 => hK.out _ _ (S2 u w1 v w2 h1 h2) (fun _ => ?_))
  refine wpAnyH_take (i := 12) (oi := o12) rfl hs f12 r12 (fun _ _ _ h => h) (hyl u w1 v w2 h1 h2) (S2 u w1 v w2 h1 h2) ?_
  exact ⟨rr, NoPanic.normal (h u w1 v w2 h1 h2)⟩
end

theorem wp_cons {o : Oper} {a : Act} {w : World} {K : Act → World → Prop} {Q : Exit → Act → World → Prop} (x0 x1 x2 x3 x4 x5 : Operand) (ts : Array TypeId) (ho : o.op = .call { callee := .value (.func 17), args := #[x0, x1, x2, x3, x4, x5], argTypes := ts }) (z : Int) (m n : Nat) (l r : List Nat) (u : Value) (p : List (List Nat))
    (e0 : a.eval x0 = .int .i64 z) (e1 : a.eval x1 = .int .u64 (m : Int)) (e2 : a.eval x2 = .int .u64 (n : Int)) (e3 : a.eval x3 = .agg (l.map u8).toArray) (e4 : a.eval x4 = .agg (r.map u8).toArray) (e5 : a.eval x5 = u)
    (hz : -9223372036854775808 ≤ z ∧ z ≤ 9223372036854775807) (hl : Dg l) (hr : Dg r) (hi : m < 18446744073709551616) (hn : n < 18446744073709551616) (hp : RdD w u p) (hT : Tabs w)
    (h : ∀ v w1, v = .int .i64 (conE z m n l r p) ∧ Kept [] w w1 → K (a.put o.dst v) w1) : o.wp Tryd.prog a w K Q := by
  unfold Oper.wp execOp
  simp only [ho]
  have hf : a.eval (.func 17) = .func (.func 17) #[] #[] := rfl
  have hcl : ∀ args W, (callFunc 17 args).run Tryd.prog W = .ok (.enter 17 args) W := fun args W => Tryd.call17 args W
  simp only [resolve, invoke, hf, e0, e1, e2, e3, e4, e5, Sem.run_bind, Sem.run_pure, Result.andThen_ok, List.map_toArray, List.map_cons, List.map_nil, hcl]
  simp [Deferred.ofValue, hcl, go_sem]
  refine (consistency_any z m n l r u p w hz hl hr hi hn hp hT).mono ?_
  rintro e w2 ⟨rfl, k2⟩
  exact h _ w2 ⟨rfl, k2⟩
end Go.Proofs.YthafpaenggcpdaaDoor
/-
  A return of two rows and a value, out of reads and calls: reads may come up behind stores. One law a shape, for all orders.
-/
namespace Go.Proofs.YthafpaenggcpdaaDoor
open Go Go.RowKit Go.BigFrame
set_option linter.unusedVariables false
set_option linter.unusedSimpArgs false
section
variable {P : Program} {Q : Exit → Act → World → Prop}
theorem wp_r5 {id : Nat} {o0 o1 o2 o3 o4 : Oper} {a : Act} {w : World} (b5 b6 : Nat) (hm : P.follows .mixedOrders = true) (hs : Region.noSelect #[o0, o1, o2, o3, o4] = true)
    (f0 : Region.free .any #[o0, o1, o2, o3, o4] #[false, false, false, false, false] 0 = true) (r0 : (Region.ready .any #[o0, o1, o2, o3, o4] #[false, false, false, false, false]).contains 0 = true)
    (f1 : Region.free .any #[o0, o1, o2, o3, o4] #[true, false, false, false, false] 1 = true) (r1 : (Region.ready .any #[o0, o1, o2, o3, o4] #[true, false, false, false, false]).contains 1 = true)
    (r2 : Region.ready .any #[o0, o1, o2, o3, o4] #[true, true, false, false, false] = [2])
    (r3 : Region.ready .any #[o0, o1, o2, o3, o4] #[true, true, true, false, false] = [3])
    (f4 : Region.free .any #[o0, o1, o2, o3, o4] #[true, true, true, true, false] 4 = true) (r4 : (Region.ready .any #[o0, o1, o2, o3, o4] #[true, true, true, true, false]).contains 4 = true)
    (rr : Region.ready .any #[o0, o1, o2, o3, o4] #[true, true, true, true, true] = [])
    (g2 : o2.guard = none) (g3 : o3.guard = none)
    (v0 v1 v4 : Value) (A0 A1 A2 A3 A4 : Act)
    (p0 : a.put o0.dst v0 = A0) (p1 : A0.put o1.dst v1 = A1) (p2 : A1.put o2.dst undef = A2) (p3 : A2.put o3.dst undef = A3) (p4 : A3.put o4.dst v4 = A4) 
    (hy0 : YieldsIf P #[o0, o1, o2, o3, o4] (Kept [b5, b6] w) o0 v0 a)
    (hy1 : YieldsIf P #[o0, o1, o2, o3, o4] (Kept [b5, b6] w) o1 v1 A0)
    (t5 t6 : TypeId) (x5 y5 x6 y6 : Operand) (h5 : o2.op = .store t5 x5 y5) (h6 : o3.op = .store t6 x6 y6) (cs5 cs6 old5 old6 : Array Value) (u5 u6 : TypeId) (hne : b5 ≠ b6)
    (e5 : A1.eval x5 = .pointer (some ⟨b5, 0, none⟩)) (z5 : A1.eval y5 = .agg cs5) (hg5 : w.heap[b5]? = some (.cells old5 u5 (0, 0))) (i5 : (P.info? t5).map (·.size) = some cs5.size) (l5 : old5.size = cs5.size) (n5 : cs5.all (·.oneCell') = true)
    (e6 : A2.eval x6 = .pointer (some ⟨b6, 0, none⟩)) (z6 : A2.eval y6 = .agg cs6) (hg6 : w.heap[b6]? = some (.cells old6 u6 (0, 0))) (i6 : (P.info? t6).map (·.size) = some cs6.size) (l6 : old6.size = cs6.size) (n6 : cs6.all (·.oneCell') = true)
    (hyl : YieldsIf P #[o0, o1, o2, o3, o4] (Kept [b5, b6] w) o4 v4 A3)
    (h : ∀ w1, Kept [] w w1 → Q .normal A4 ((w1.setRow b5 cs5).setRow b6 cs6)) :
    (Code.region id #[o0, o1, o2, o3, o4] true).wp P Q a w := by
  subst p0 p1 p2 p3 p4
  have hS : Kept [b5, b6] w w.drew := (Kept.refl [b5, b6] w).drew
  have k00 : Kept [] w w.drew := (Kept.refl [] w).drew
  refine wp_region_noPanic ?_
  refine wp_region_held_drew (S := Kept [b5, b6] w) hm hS (fun hH => ?_)
  show wpAnyH P .any #[o0, o1, o2, o3, o4] (NoPanic Q) (Kept [b5, b6] w) 5 #[false, false, false, false, false] a w.drew
  refine wpAnyH_take (i := 0) (oi := o0) rfl hs f0 r0 (fun _ _ _ h => h) hy0 hS ?_
  refine wpAnyH_take (i := 1) (oi := o1) rfl hs f1 r1 (fun _ _ _ h => h) hy1 hS ?_
  have hg5' := k00.heap hg5 (by simp)
  have hg6' := (setRow_other w.drew b5 b6 cs5 (fun e => hne e.symm)).trans (k00.heap hg6 (by simp))
  have hS5 : Kept [b5, b6] w (w.drew.setRow b5 cs5) := (k00.mono (by simp)).setRow (Or.inl (by simp)) cs5
  have hS6 : Kept [b5, b6] w ((w.drew.setRow b5 cs5).setRow b6 cs6) := hS5.setRow (Or.inl (by simp)) cs6
  refine wpAnyH_ready (rs := [2]) r2 (by simp) (AllReadyH.cons (o := o2) rfl (fun K hK => ?_) AllReadyH.nil)
  have ws1 : ∀ y, Region.wanted o2 y = true := fun y => by unfold Region.wanted; rw [g2]
  rw [if_pos (ws1 _)]
  refine wp_store_row t5 x5 y5 h5 b5 cs5 e5 z5 u5 old5 hg5' i5 l5 n5 ?_
  refine hK.out _ _ hS5 (fun _ => ?_)
  refine wpAnyH_ready (rs := [3]) r3 (by simp) (AllReadyH.cons (o := o3) rfl (fun K hK => ?_) AllReadyH.nil)
  have ws2 : ∀ y, Region.wanted o3 y = true := fun y => by unfold Region.wanted; rw [g3]
  rw [if_pos (ws2 _)]
  refine wp_store_row t6 x6 y6 h6 b6 cs6 e6 z6 u6 old6 hg6' i6 l6 n6 ?_
  refine hK.out _ _ hS6 (fun _ => ?_)
  refine wpAnyH_take (i := 4) (oi := o4) rfl hs f4 r4 (fun _ _ _ h => h) hyl hS6 ?_
  exact ⟨rr, NoPanic.normal (h w.drew k00)⟩
theorem wp_r8 {id : Nat} {o0 o1 o2 o3 o4 o5 o6 o7 : Oper} {a : Act} {w : World} (b5 b6 : Nat) (hm : P.follows .mixedOrders = true) (hs : Region.noSelect #[o0, o1, o2, o3, o4, o5, o6, o7] = true)
    (f0 : Region.free .any #[o0, o1, o2, o3, o4, o5, o6, o7] #[false, false, false, false, false, false, false, false] 0 = true) (r0 : (Region.ready .any #[o0, o1, o2, o3, o4, o5, o6, o7] #[false, false, false, false, false, false, false, false]).contains 0 = true)
    (f1 : Region.free .any #[o0, o1, o2, o3, o4, o5, o6, o7] #[true, false, false, false, false, false, false, false] 1 = true) (r1 : (Region.ready .any #[o0, o1, o2, o3, o4, o5, o6, o7] #[true, false, false, false, false, false, false, false]).contains 1 = true)
    (f2 : Region.free .any #[o0, o1, o2, o3, o4, o5, o6, o7] #[true, true, false, false, false, false, false, false] 2 = true) (r2 : (Region.ready .any #[o0, o1, o2, o3, o4, o5, o6, o7] #[true, true, false, false, false, false, false, false]).contains 2 = true)
    (f3 : Region.free .any #[o0, o1, o2, o3, o4, o5, o6, o7] #[true, true, true, false, false, false, false, false] 3 = true) (r3 : (Region.ready .any #[o0, o1, o2, o3, o4, o5, o6, o7] #[true, true, true, false, false, false, false, false]).contains 3 = true)
    (f4 : Region.free .any #[o0, o1, o2, o3, o4, o5, o6, o7] #[true, true, true, true, false, false, false, false] 4 = true) (r4 : (Region.ready .any #[o0, o1, o2, o3, o4, o5, o6, o7] #[true, true, true, true, false, false, false, false]).contains 4 = true)
    (r5 : Region.ready .any #[o0, o1, o2, o3, o4, o5, o6, o7] #[true, true, true, true, true, false, false, false] = [5])
    (r6 : Region.ready .any #[o0, o1, o2, o3, o4, o5, o6, o7] #[true, true, true, true, true, true, false, false] = [6])
    (f7 : Region.free .any #[o0, o1, o2, o3, o4, o5, o6, o7] #[true, true, true, true, true, true, true, false] 7 = true) (r7 : (Region.ready .any #[o0, o1, o2, o3, o4, o5, o6, o7] #[true, true, true, true, true, true, true, false]).contains 7 = true)
    (rr : Region.ready .any #[o0, o1, o2, o3, o4, o5, o6, o7] #[true, true, true, true, true, true, true, true] = [])
    (g5 : o5.guard = none) (g6 : o6.guard = none)
    (v0 v1 v2 v3 v4 v7 : Value) (A0 A1 A2 A3 A4 A5 A6 A7 : Act)
    (p0 : a.put o0.dst v0 = A0) (p1 : A0.put o1.dst v1 = A1) (p2 : A1.put o2.dst v2 = A2) (p3 : A2.put o3.dst v3 = A3) (p4 : A3.put o4.dst v4 = A4) (p5 : A4.put o5.dst undef = A5) (p6 : A5.put o6.dst undef = A6) (p7 : A6.put o7.dst v7 = A7) 
    (hy0 : YieldsIf P #[o0, o1, o2, o3, o4, o5, o6, o7] (Kept [b5, b6] w) o0 v0 a)
    (hy1 : YieldsIf P #[o0, o1, o2, o3, o4, o5, o6, o7] (Kept [b5, b6] w) o1 v1 A0)
    (hy2 : YieldsIf P #[o0, o1, o2, o3, o4, o5, o6, o7] (Kept [b5, b6] w) o2 v2 A1)
    (hy3 : YieldsIf P #[o0, o1, o2, o3, o4, o5, o6, o7] (Kept [b5, b6] w) o3 v3 A2)
    (hy4 : YieldsIf P #[o0, o1, o2, o3, o4, o5, o6, o7] (Kept [b5, b6] w) o4 v4 A3)
    (t5 t6 : TypeId) (x5 y5 x6 y6 : Operand) (h5 : o5.op = .store t5 x5 y5) (h6 : o6.op = .store t6 x6 y6) (cs5 cs6 old5 old6 : Array Value) (u5 u6 : TypeId) (hne : b5 ≠ b6)
    (e5 : A4.eval x5 = .pointer (some ⟨b5, 0, none⟩)) (z5 : A4.eval y5 = .agg cs5) (hg5 : w.heap[b5]? = some (.cells old5 u5 (0, 0))) (i5 : (P.info? t5).map (·.size) = some cs5.size) (l5 : old5.size = cs5.size) (n5 : cs5.all (·.oneCell') = true)
    (e6 : A5.eval x6 = .pointer (some ⟨b6, 0, none⟩)) (z6 : A5.eval y6 = .agg cs6) (hg6 : w.heap[b6]? = some (.cells old6 u6 (0, 0))) (i6 : (P.info? t6).map (·.size) = some cs6.size) (l6 : old6.size = cs6.size) (n6 : cs6.all (·.oneCell') = true)
    (hyl : YieldsIf P #[o0, o1, o2, o3, o4, o5, o6, o7] (Kept [b5, b6] w) o7 v7 A6)
    (h : ∀ w1, Kept [] w w1 → Q .normal A7 ((w1.setRow b5 cs5).setRow b6 cs6)) :
    (Code.region id #[o0, o1, o2, o3, o4, o5, o6, o7] true).wp P Q a w := by
  subst p0 p1 p2 p3 p4 p5 p6 p7
  have hS : Kept [b5, b6] w w.drew := (Kept.refl [b5, b6] w).drew
  have k00 : Kept [] w w.drew := (Kept.refl [] w).drew
  refine wp_region_noPanic ?_
  refine wp_region_held_drew (S := Kept [b5, b6] w) hm hS (fun hH => ?_)
  show wpAnyH P .any #[o0, o1, o2, o3, o4, o5, o6, o7] (NoPanic Q) (Kept [b5, b6] w) 8 #[false, false, false, false, false, false, false, false] a w.drew
  refine wpAnyH_take (i := 0) (oi := o0) rfl hs f0 r0 (fun _ _ _ h => h) hy0 hS ?_
  refine wpAnyH_take (i := 1) (oi := o1) rfl hs f1 r1 (fun _ _ _ h => h) hy1 hS ?_
  refine wpAnyH_take (i := 2) (oi := o2) rfl hs f2 r2 (fun _ _ _ h => h) hy2 hS ?_
  refine wpAnyH_take (i := 3) (oi := o3) rfl hs f3 r3 (fun _ _ _ h => h) hy3 hS ?_
  refine wpAnyH_take (i := 4) (oi := o4) rfl hs f4 r4 (fun _ _ _ h => h) hy4 hS ?_
  have hg5' := k00.heap hg5 (by simp)
  have hg6' := (setRow_other w.drew b5 b6 cs5 (fun e => hne e.symm)).trans (k00.heap hg6 (by simp))
  have hS5 : Kept [b5, b6] w (w.drew.setRow b5 cs5) := (k00.mono (by simp)).setRow (Or.inl (by simp)) cs5
  have hS6 : Kept [b5, b6] w ((w.drew.setRow b5 cs5).setRow b6 cs6) := hS5.setRow (Or.inl (by simp)) cs6
  refine wpAnyH_ready (rs := [5]) r5 (by simp) (AllReadyH.cons (o := o5) rfl (fun K hK => ?_) AllReadyH.nil)
  have ws1 : ∀ y, Region.wanted o5 y = true := fun y => by unfold Region.wanted; rw [g5]
  rw [if_pos (ws1 _)]
  refine wp_store_row t5 x5 y5 h5 b5 cs5 e5 z5 u5 old5 hg5' i5 l5 n5 ?_
  refine hK.out _ _ hS5 (fun _ => ?_)
  refine wpAnyH_ready (rs := [6]) r6 (by simp) (AllReadyH.cons (o := o6) rfl (fun K hK => ?_) AllReadyH.nil)
  have ws2 : ∀ y, Region.wanted o6 y = true := fun y => by unfold Region.wanted; rw [g6]
  rw [if_pos (ws2 _)]
  refine wp_store_row t6 x6 y6 h6 b6 cs6 e6 z6 u6 old6 hg6' i6 l6 n6 ?_
  refine hK.out _ _ hS6 (fun _ => ?_)
  refine wpAnyH_take (i := 7) (oi := o7) rfl hs f7 r7 (fun _ _ _ h => h) hyl hS6 ?_
  exact ⟨rr, NoPanic.normal (h w.drew k00)⟩
theorem wp_r9 {id : Nat} {o0 o1 o2 o3 o4 o5 o6 o7 o8 : Oper} {a : Act} {w : World} (b5 b6 : Nat) (hm : P.follows .mixedOrders = true) (hs : Region.noSelect #[o0, o1, o2, o3, o4, o5, o6, o7, o8] = true)
    (f0 : Region.free .any #[o0, o1, o2, o3, o4, o5, o6, o7, o8] #[false, false, false, false, false, false, false, false, false] 0 = true) (r0 : (Region.ready .any #[o0, o1, o2, o3, o4, o5, o6, o7, o8] #[false, false, false, false, false, false, false, false, false]).contains 0 = true)
    (f1 : Region.free .any #[o0, o1, o2, o3, o4, o5, o6, o7, o8] #[true, false, false, false, false, false, false, false, false] 1 = true) (r1 : (Region.ready .any #[o0, o1, o2, o3, o4, o5, o6, o7, o8] #[true, false, false, false, false, false, false, false, false]).contains 1 = true)
    (f2 : Region.free .any #[o0, o1, o2, o3, o4, o5, o6, o7, o8] #[true, true, false, false, false, false, false, false, false] 2 = true) (r2 : (Region.ready .any #[o0, o1, o2, o3, o4, o5, o6, o7, o8] #[true, true, false, false, false, false, false, false, false]).contains 2 = true)
    (f3 : Region.free .any #[o0, o1, o2, o3, o4, o5, o6, o7, o8] #[true, true, true, false, false, false, false, false, false] 3 = true) (r3 : (Region.ready .any #[o0, o1, o2, o3, o4, o5, o6, o7, o8] #[true, true, true, false, false, false, false, false, false]).contains 3 = true)
    (f4 : Region.free .any #[o0, o1, o2, o3, o4, o5, o6, o7, o8] #[true, true, true, true, false, false, false, false, false] 4 = true) (r4 : (Region.ready .any #[o0, o1, o2, o3, o4, o5, o6, o7, o8] #[true, true, true, true, false, false, false, false, false]).contains 4 = true)
    (f5 : Region.free .any #[o0, o1, o2, o3, o4, o5, o6, o7, o8] #[true, true, true, true, true, false, false, false, false] 5 = true) (r5 : (Region.ready .any #[o0, o1, o2, o3, o4, o5, o6, o7, o8] #[true, true, true, true, true, false, false, false, false]).contains 5 = true)
    (r6 : Region.ready .any #[o0, o1, o2, o3, o4, o5, o6, o7, o8] #[true, true, true, true, true, true, false, false, false] = [6])
    (r7 : Region.ready .any #[o0, o1, o2, o3, o4, o5, o6, o7, o8] #[true, true, true, true, true, true, true, false, false] = [7])
    (f8 : Region.free .any #[o0, o1, o2, o3, o4, o5, o6, o7, o8] #[true, true, true, true, true, true, true, true, false] 8 = true) (r8 : (Region.ready .any #[o0, o1, o2, o3, o4, o5, o6, o7, o8] #[true, true, true, true, true, true, true, true, false]).contains 8 = true)
    (rr : Region.ready .any #[o0, o1, o2, o3, o4, o5, o6, o7, o8] #[true, true, true, true, true, true, true, true, true] = [])
    (g6 : o6.guard = none) (g7 : o7.guard = none)
    (v0 v1 v2 v3 v4 v5 v8 : Value) (A0 A1 A2 A3 A4 A5 A6 A7 A8 : Act)
    (p0 : a.put o0.dst v0 = A0) (p1 : A0.put o1.dst v1 = A1) (p2 : A1.put o2.dst v2 = A2) (p3 : A2.put o3.dst v3 = A3) (p4 : A3.put o4.dst v4 = A4) (p5 : A4.put o5.dst v5 = A5) (p6 : A5.put o6.dst undef = A6) (p7 : A6.put o7.dst undef = A7) (p8 : A7.put o8.dst v8 = A8) 
    (hy0 : YieldsIf P #[o0, o1, o2, o3, o4, o5, o6, o7, o8] (Kept [b5, b6] w) o0 v0 a)
    (hy1 : YieldsIf P #[o0, o1, o2, o3, o4, o5, o6, o7, o8] (Kept [b5, b6] w) o1 v1 A0)
    (hy2 : YieldsIf P #[o0, o1, o2, o3, o4, o5, o6, o7, o8] (Kept [b5, b6] w) o2 v2 A1)
    (hy3 : YieldsIf P #[o0, o1, o2, o3, o4, o5, o6, o7, o8] (Kept [b5, b6] w) o3 v3 A2)
    (hy4 : YieldsIf P #[o0, o1, o2, o3, o4, o5, o6, o7, o8] (Kept [b5, b6] w) o4 v4 A3)
    (hy5 : YieldsIf P #[o0, o1, o2, o3, o4, o5, o6, o7, o8] (Kept [b5, b6] w) o5 v5 A4)
    (t5 t6 : TypeId) (x5 y5 x6 y6 : Operand) (h5 : o6.op = .store t5 x5 y5) (h6 : o7.op = .store t6 x6 y6) (cs5 cs6 old5 old6 : Array Value) (u5 u6 : TypeId) (hne : b5 ≠ b6)
    (e5 : A5.eval x5 = .pointer (some ⟨b5, 0, none⟩)) (z5 : A5.eval y5 = .agg cs5) (hg5 : w.heap[b5]? = some (.cells old5 u5 (0, 0))) (i5 : (P.info? t5).map (·.size) = some cs5.size) (l5 : old5.size = cs5.size) (n5 : cs5.all (·.oneCell') = true)
    (e6 : A6.eval x6 = .pointer (some ⟨b6, 0, none⟩)) (z6 : A6.eval y6 = .agg cs6) (hg6 : w.heap[b6]? = some (.cells old6 u6 (0, 0))) (i6 : (P.info? t6).map (·.size) = some cs6.size) (l6 : old6.size = cs6.size) (n6 : cs6.all (·.oneCell') = true)
    (hyl : YieldsIf P #[o0, o1, o2, o3, o4, o5, o6, o7, o8] (Kept [b5, b6] w) o8 v8 A7)
    (h : ∀ w1, Kept [] w w1 → Q .normal A8 ((w1.setRow b5 cs5).setRow b6 cs6)) :
    (Code.region id #[o0, o1, o2, o3, o4, o5, o6, o7, o8] true).wp P Q a w := by
  subst p0 p1 p2 p3 p4 p5 p6 p7 p8
  have hS : Kept [b5, b6] w w.drew := (Kept.refl [b5, b6] w).drew
  have k00 : Kept [] w w.drew := (Kept.refl [] w).drew
  refine wp_region_noPanic ?_
  refine wp_region_held_drew (S := Kept [b5, b6] w) hm hS (fun hH => ?_)
  show wpAnyH P .any #[o0, o1, o2, o3, o4, o5, o6, o7, o8] (NoPanic Q) (Kept [b5, b6] w) 9 #[false, false, false, false, false, false, false, false, false] a w.drew
  refine wpAnyH_take (i := 0) (oi := o0) rfl hs f0 r0 (fun _ _ _ h => h) hy0 hS ?_
  refine wpAnyH_take (i := 1) (oi := o1) rfl hs f1 r1 (fun _ _ _ h => h) hy1 hS ?_
  refine wpAnyH_take (i := 2) (oi := o2) rfl hs f2 r2 (fun _ _ _ h => h) hy2 hS ?_
  refine wpAnyH_take (i := 3) (oi := o3) rfl hs f3 r3 (fun _ _ _ h => h) hy3 hS ?_
  refine wpAnyH_take (i := 4) (oi := o4) rfl hs f4 r4 (fun _ _ _ h => h) hy4 hS ?_
  refine wpAnyH_take (i := 5) (oi := o5) rfl hs f5 r5 (fun _ _ _ h => h) hy5 hS ?_
  have hg5' := k00.heap hg5 (by simp)
  have hg6' := (setRow_other w.drew b5 b6 cs5 (fun e => hne e.symm)).trans (k00.heap hg6 (by simp))
  have hS5 : Kept [b5, b6] w (w.drew.setRow b5 cs5) := (k00.mono (by simp)).setRow (Or.inl (by simp)) cs5
  have hS6 : Kept [b5, b6] w ((w.drew.setRow b5 cs5).setRow b6 cs6) := hS5.setRow (Or.inl (by simp)) cs6
  refine wpAnyH_ready (rs := [6]) r6 (by simp) (AllReadyH.cons (o := o6) rfl (fun K hK => ?_) AllReadyH.nil)
  have ws1 : ∀ y, Region.wanted o6 y = true := fun y => by unfold Region.wanted; rw [g6]
  rw [if_pos (ws1 _)]
  refine wp_store_row t5 x5 y5 h5 b5 cs5 e5 z5 u5 old5 hg5' i5 l5 n5 ?_
  refine hK.out _ _ hS5 (fun _ => ?_)
  refine wpAnyH_ready (rs := [7]) r7 (by simp) (AllReadyH.cons (o := o7) rfl (fun K hK => ?_) AllReadyH.nil)
  have ws2 : ∀ y, Region.wanted o7 y = true := fun y => by unfold Region.wanted; rw [g7]
  rw [if_pos (ws2 _)]
  refine wp_store_row t6 x6 y6 h6 b6 cs6 e6 z6 u6 old6 hg6' i6 l6 n6 ?_
  refine hK.out _ _ hS6 (fun _ => ?_)
  refine wpAnyH_take (i := 8) (oi := o8) rfl hs f8 r8 (fun _ _ _ h => h) hyl hS6 ?_
  exact ⟨rr, NoPanic.normal (h w.drew k00)⟩
theorem wp_r9c {id : Nat} {o0 o1 o2 o3 o4 o5 o6 o7 o8 : Oper} {a : Act} {w : World} (b5 b6 : Nat) (hm : P.follows .mixedOrders = true) (hs : Region.noSelect #[o0, o1, o2, o3, o4, o5, o6, o7, o8] = true)
    (f0 : Region.free .any #[o0, o1, o2, o3, o4, o5, o6, o7, o8] #[false, false, false, false, false, false, false, false, false] 0 = true) (r0 : (Region.ready .any #[o0, o1, o2, o3, o4, o5, o6, o7, o8] #[false, false, false, false, false, false, false, false, false]).contains 0 = true)
    (f1 : Region.free .any #[o0, o1, o2, o3, o4, o5, o6, o7, o8] #[true, false, false, false, false, false, false, false, false] 1 = true) (r1 : (Region.ready .any #[o0, o1, o2, o3, o4, o5, o6, o7, o8] #[true, false, false, false, false, false, false, false, false]).contains 1 = true)
    (f2 : Region.free .any #[o0, o1, o2, o3, o4, o5, o6, o7, o8] #[true, true, false, false, false, false, false, false, false] 2 = true) (r2 : (Region.ready .any #[o0, o1, o2, o3, o4, o5, o6, o7, o8] #[true, true, false, false, false, false, false, false, false]).contains 2 = true)
    (f3 : Region.free .any #[o0, o1, o2, o3, o4, o5, o6, o7, o8] #[true, true, true, false, false, false, false, false, false] 3 = true) (r3 : (Region.ready .any #[o0, o1, o2, o3, o4, o5, o6, o7, o8] #[true, true, true, false, false, false, false, false, false]).contains 3 = true)
    (f5 : Region.free .any #[o0, o1, o2, o3, o4, o5, o6, o7, o8] #[true, true, true, true, false, false, false, false, false] 5 = true) (r5 : (Region.ready .any #[o0, o1, o2, o3, o4, o5, o6, o7, o8] #[true, true, true, true, false, false, false, false, false]).contains 5 = true)
    (r4 : Region.ready .any #[o0, o1, o2, o3, o4, o5, o6, o7, o8] #[true, true, true, true, false, true, false, false, false] = [4])
    (r6 : Region.ready .any #[o0, o1, o2, o3, o4, o5, o6, o7, o8] #[true, true, true, true, true, true, false, false, false] = [6])
    (r7 : Region.ready .any #[o0, o1, o2, o3, o4, o5, o6, o7, o8] #[true, true, true, true, true, true, true, false, false] = [7])
    (f8 : Region.free .any #[o0, o1, o2, o3, o4, o5, o6, o7, o8] #[true, true, true, true, true, true, true, true, false] 8 = true) (r8 : (Region.ready .any #[o0, o1, o2, o3, o4, o5, o6, o7, o8] #[true, true, true, true, true, true, true, true, false]).contains 8 = true)
    (rr : Region.ready .any #[o0, o1, o2, o3, o4, o5, o6, o7, o8] #[true, true, true, true, true, true, true, true, true] = [])
    (g4 : o4.guard = none) (g6 : o6.guard = none) (g7 : o7.guard = none)
    (v0 v1 v2 v3 v5 v4 v8 : Value) (A0 A1 A2 A3 A5 A4 A6 A7 A8 : Act)
    (p0 : a.put o0.dst v0 = A0) (p1 : A0.put o1.dst v1 = A1) (p2 : A1.put o2.dst v2 = A2) (p3 : A2.put o3.dst v3 = A3) (p5 : A3.put o5.dst v5 = A5) (p4 : A5.put o4.dst v4 = A4) (p6 : A4.put o6.dst undef = A6) (p7 : A6.put o7.dst undef = A7) (p8 : A7.put o8.dst v8 = A8) 
    (hy0 : YieldsIf P #[o0, o1, o2, o3, o4, o5, o6, o7, o8] (Kept [b5, b6] w) o0 v0 a)
    (hy1 : YieldsIf P #[o0, o1, o2, o3, o4, o5, o6, o7, o8] (Kept [b5, b6] w) o1 v1 A0)
    (hy2 : YieldsIf P #[o0, o1, o2, o3, o4, o5, o6, o7, o8] (Kept [b5, b6] w) o2 v2 A1)
    (hy3 : YieldsIf P #[o0, o1, o2, o3, o4, o5, o6, o7, o8] (Kept [b5, b6] w) o3 v3 A2)
    (hy5 : YieldsIf P #[o0, o1, o2, o3, o4, o5, o6, o7, o8] (Kept [b5, b6] w) o5 v5 A3)
    (k4 : ∀ w0, Kept [] w w0 → ∀ K : Act → World → Prop, (∀ w1, Kept [] w0 w1 → K (A5.put o4.dst v4) w1) → o4.wp P A5 w0 K (NoPanic Q))
    (t5 t6 : TypeId) (x5 y5 x6 y6 : Operand) (h5 : o6.op = .store t5 x5 y5) (h6 : o7.op = .store t6 x6 y6) (cs5 cs6 old5 old6 : Array Value) (u5 u6 : TypeId) (hne : b5 ≠ b6)
    (e5 : A4.eval x5 = .pointer (some ⟨b5, 0, none⟩)) (z5 : A4.eval y5 = .agg cs5) (hg5 : w.heap[b5]? = some (.cells old5 u5 (0, 0))) (i5 : (P.info? t5).map (·.size) = some cs5.size) (l5 : old5.size = cs5.size) (n5 : cs5.all (·.oneCell') = true)
    (e6 : A6.eval x6 = .pointer (some ⟨b6, 0, none⟩)) (z6 : A6.eval y6 = .agg cs6) (hg6 : w.heap[b6]? = some (.cells old6 u6 (0, 0))) (i6 : (P.info? t6).map (·.size) = some cs6.size) (l6 : old6.size = cs6.size) (n6 : cs6.all (·.oneCell') = true)
    (hyl : YieldsIf P #[o0, o1, o2, o3, o4, o5, o6, o7, o8] (Kept [b5, b6] w) o8 v8 A7)
    (h : ∀ w1, Kept [] w w1 → Q .normal A8 ((w1.setRow b5 cs5).setRow b6 cs6)) :
    (Code.region id #[o0, o1, o2, o3, o4, o5, o6, o7, o8] true).wp P Q a w := by
  subst p0 p1 p2 p3 p5 p4 p6 p7 p8
  have hS : Kept [b5, b6] w w.drew := (Kept.refl [b5, b6] w).drew
  have k00 : Kept [] w w.drew := (Kept.refl [] w).drew
  refine wp_region_noPanic ?_
  refine wp_region_held_drew (S := Kept [b5, b6] w) hm hS (fun hH => ?_)
  show wpAnyH P .any #[o0, o1, o2, o3, o4, o5, o6, o7, o8] (NoPanic Q) (Kept [b5, b6] w) 9 #[false, false, false, false, false, false, false, false, false] a w.drew
  refine wpAnyH_take (i := 0) (oi := o0) rfl hs f0 r0 (fun _ _ _ h => h) hy0 hS ?_
  refine wpAnyH_take (i := 1) (oi := o1) rfl hs f1 r1 (fun _ _ _ h => h) hy1 hS ?_
  refine wpAnyH_take (i := 2) (oi := o2) rfl hs f2 r2 (fun _ _ _ h => h) hy2 hS ?_
  refine wpAnyH_take (i := 3) (oi := o3) rfl hs f3 r3 (fun _ _ _ h => h) hy3 hS ?_
  refine wpAnyH_take (i := 5) (oi := o5) rfl hs f5 r5 (fun _ _ _ h => h) hy5 hS ?_
  refine wpAnyH_ready (rs := [4]) r4 (by simp) (AllReadyH.cons (o := o4) rfl (fun K hK => ?_) AllReadyH.nil)
  have wa4 : ∀ y, Region.wanted o4 y = true := fun y => by unfold Region.wanted; rw [g4]
  rw [if_pos (wa4 _)]
  refine k4 w.drew k00 K (fun w4 q4 => ?_)
  have kk4 := k00.trans q4 (by simp)
  refine hK.out _ _ (kk4.mono (by simp)) (fun _ => ?_)
  have hg5' := kk4.heap hg5 (by simp)
  have hg6' := (setRow_other w4 b5 b6 cs5 (fun e => hne e.symm)).trans (kk4.heap hg6 (by simp))
  have hS5 : Kept [b5, b6] w (w4.setRow b5 cs5) := (kk4.mono (by simp)).setRow (Or.inl (by simp)) cs5
  have hS6 : Kept [b5, b6] w ((w4.setRow b5 cs5).setRow b6 cs6) := hS5.setRow (Or.inl (by simp)) cs6
  refine wpAnyH_ready (rs := [6]) r6 (by simp) (AllReadyH.cons (o := o6) rfl (fun K hK => ?_) AllReadyH.nil)
  have ws1 : ∀ y, Region.wanted o6 y = true := fun y => by unfold Region.wanted; rw [g6]
  rw [if_pos (ws1 _)]
  refine wp_store_row t5 x5 y5 h5 b5 cs5 e5 z5 u5 old5 hg5' i5 l5 n5 ?_
  refine hK.out _ _ hS5 (fun _ => ?_)
  refine wpAnyH_ready (rs := [7]) r7 (by simp) (AllReadyH.cons (o := o7) rfl (fun K hK => ?_) AllReadyH.nil)
  have ws2 : ∀ y, Region.wanted o7 y = true := fun y => by unfold Region.wanted; rw [g7]
  rw [if_pos (ws2 _)]
  refine wp_store_row t6 x6 y6 h6 b6 cs6 e6 z6 u6 old6 hg6' i6 l6 n6 ?_
  refine hK.out _ _ hS6 (fun _ => ?_)
  refine wpAnyH_take (i := 8) (oi := o8) rfl hs f8 r8 (fun _ _ _ h => h) hyl hS6 ?_
  exact ⟨rr, NoPanic.normal (h w4 kk4)⟩
theorem wp_r12c {id : Nat} {o0 o1 o2 o3 o4 o5 o6 o7 o8 o9 o10 o11 : Oper} {a : Act} {w : World} (b5 b6 : Nat) (hm : P.follows .mixedOrders = true) (hs : Region.noSelect #[o0, o1, o2, o3, o4, o5, o6, o7, o8, o9, o10, o11] = true)
    (f0 : Region.free .any #[o0, o1, o2, o3, o4, o5, o6, o7, o8, o9, o10, o11] #[false, false, false, false, false, false, false, false, false, false, false, false] 0 = true) (r0 : (Region.ready .any #[o0, o1, o2, o3, o4, o5, o6, o7, o8, o9, o10, o11] #[false, false, false, false, false, false, false, false, false, false, false, false]).contains 0 = true)
    (f1 : Region.free .any #[o0, o1, o2, o3, o4, o5, o6, o7, o8, o9, o10, o11] #[true, false, false, false, false, false, false, false, false, false, false, false] 1 = true) (r1 : (Region.ready .any #[o0, o1, o2, o3, o4, o5, o6, o7, o8, o9, o10, o11] #[true, false, false, false, false, false, false, false, false, false, false, false]).contains 1 = true)
    (f2 : Region.free .any #[o0, o1, o2, o3, o4, o5, o6, o7, o8, o9, o10, o11] #[true, true, false, false, false, false, false, false, false, false, false, false] 2 = true) (r2 : (Region.ready .any #[o0, o1, o2, o3, o4, o5, o6, o7, o8, o9, o10, o11] #[true, true, false, false, false, false, false, false, false, false, false, false]).contains 2 = true)
    (f4 : Region.free .any #[o0, o1, o2, o3, o4, o5, o6, o7, o8, o9, o10, o11] #[true, true, true, false, false, false, false, false, false, false, false, false] 4 = true) (r4 : (Region.ready .any #[o0, o1, o2, o3, o4, o5, o6, o7, o8, o9, o10, o11] #[true, true, true, false, false, false, false, false, false, false, false, false]).contains 4 = true)
    (f5 : Region.free .any #[o0, o1, o2, o3, o4, o5, o6, o7, o8, o9, o10, o11] #[true, true, true, false, true, false, false, false, false, false, false, false] 5 = true) (r5 : (Region.ready .any #[o0, o1, o2, o3, o4, o5, o6, o7, o8, o9, o10, o11] #[true, true, true, false, true, false, false, false, false, false, false, false]).contains 5 = true)
    (f6 : Region.free .any #[o0, o1, o2, o3, o4, o5, o6, o7, o8, o9, o10, o11] #[true, true, true, false, true, true, false, false, false, false, false, false] 6 = true) (r6 : (Region.ready .any #[o0, o1, o2, o3, o4, o5, o6, o7, o8, o9, o10, o11] #[true, true, true, false, true, true, false, false, false, false, false, false]).contains 6 = true)
    (f8 : Region.free .any #[o0, o1, o2, o3, o4, o5, o6, o7, o8, o9, o10, o11] #[true, true, true, false, true, true, true, false, false, false, false, false] 8 = true) (r8 : (Region.ready .any #[o0, o1, o2, o3, o4, o5, o6, o7, o8, o9, o10, o11] #[true, true, true, false, true, true, true, false, false, false, false, false]).contains 8 = true)
    (r3 : Region.ready .any #[o0, o1, o2, o3, o4, o5, o6, o7, o8, o9, o10, o11] #[true, true, true, false, true, true, true, false, true, false, false, false] = [3])
    (r7 : Region.ready .any #[o0, o1, o2, o3, o4, o5, o6, o7, o8, o9, o10, o11] #[true, true, true, true, true, true, true, false, true, false, false, false] = [7])
    (r9 : Region.ready .any #[o0, o1, o2, o3, o4, o5, o6, o7, o8, o9, o10, o11] #[true, true, true, true, true, true, true, true, true, false, false, false] = [9])
    (r10 : Region.ready .any #[o0, o1, o2, o3, o4, o5, o6, o7, o8, o9, o10, o11] #[true, true, true, true, true, true, true, true, true, true, false, false] = [10])
    (f11 : Region.free .any #[o0, o1, o2, o3, o4, o5, o6, o7, o8, o9, o10, o11] #[true, true, true, true, true, true, true, true, true, true, true, false] 11 = true) (r11 : (Region.ready .any #[o0, o1, o2, o3, o4, o5, o6, o7, o8, o9, o10, o11] #[true, true, true, true, true, true, true, true, true, true, true, false]).contains 11 = true)
    (rr : Region.ready .any #[o0, o1, o2, o3, o4, o5, o6, o7, o8, o9, o10, o11] #[true, true, true, true, true, true, true, true, true, true, true, true] = [])
    (g3 : o3.guard = none) (g7 : o7.guard = none) (g9 : o9.guard = none) (g10 : o10.guard = none)
    (v0 v1 v2 v4 v5 v6 v8 v3 v7 v11 : Value) (A0 A1 A2 A4 A5 A6 A8 A3 A7 A9 A10 A11 : Act)
    (p0 : a.put o0.dst v0 = A0) (p1 : A0.put o1.dst v1 = A1) (p2 : A1.put o2.dst v2 = A2) (p4 : A2.put o4.dst v4 = A4) (p5 : A4.put o5.dst v5 = A5) (p6 : A5.put o6.dst v6 = A6) (p8 : A6.put o8.dst v8 = A8) (p3 : A8.put o3.dst v3 = A3) (p7 : A3.put o7.dst v7 = A7) (p9 : A7.put o9.dst undef = A9) (p10 : A9.put o10.dst undef = A10) (p11 : A10.put o11.dst v11 = A11) 
    (hy0 : YieldsIf P #[o0, o1, o2, o3, o4, o5, o6, o7, o8, o9, o10, o11] (Kept [b5, b6] w) o0 v0 a)
    (hy1 : YieldsIf P #[o0, o1, o2, o3, o4, o5, o6, o7, o8, o9, o10, o11] (Kept [b5, b6] w) o1 v1 A0)
    (hy2 : YieldsIf P #[o0, o1, o2, o3, o4, o5, o6, o7, o8, o9, o10, o11] (Kept [b5, b6] w) o2 v2 A1)
    (hy4 : YieldsIf P #[o0, o1, o2, o3, o4, o5, o6, o7, o8, o9, o10, o11] (Kept [b5, b6] w) o4 v4 A2)
    (hy5 : YieldsIf P #[o0, o1, o2, o3, o4, o5, o6, o7, o8, o9, o10, o11] (Kept [b5, b6] w) o5 v5 A4)
    (hy6 : YieldsIf P #[o0, o1, o2, o3, o4, o5, o6, o7, o8, o9, o10, o11] (Kept [b5, b6] w) o6 v6 A5)
    (hy8 : YieldsIf P #[o0, o1, o2, o3, o4, o5, o6, o7, o8, o9, o10, o11] (Kept [b5, b6] w) o8 v8 A6)
    (k3 : ∀ w0, Kept [] w w0 → ∀ K : Act → World → Prop, (∀ w1, Kept [] w0 w1 → K (A8.put o3.dst v3) w1) → o3.wp P A8 w0 K (NoPanic Q))
    (k7 : ∀ w0, Kept [] w w0 → ∀ K : Act → World → Prop, (∀ w1, Kept [] w0 w1 → K (A3.put o7.dst v7) w1) → o7.wp P A3 w0 K (NoPanic Q))
    (t5 t6 : TypeId) (x5 y5 x6 y6 : Operand) (h5 : o9.op = .store t5 x5 y5) (h6 : o10.op = .store t6 x6 y6) (cs5 cs6 old5 old6 : Array Value) (u5 u6 : TypeId) (hne : b5 ≠ b6)
    (e5 : A7.eval x5 = .pointer (some ⟨b5, 0, none⟩)) (z5 : A7.eval y5 = .agg cs5) (hg5 : w.heap[b5]? = some (.cells old5 u5 (0, 0))) (i5 : (P.info? t5).map (·.size) = some cs5.size) (l5 : old5.size = cs5.size) (n5 : cs5.all (·.oneCell') = true)
    (e6 : A9.eval x6 = .pointer (some ⟨b6, 0, none⟩)) (z6 : A9.eval y6 = .agg cs6) (hg6 : w.heap[b6]? = some (.cells old6 u6 (0, 0))) (i6 : (P.info? t6).map (·.size) = some cs6.size) (l6 : old6.size = cs6.size) (n6 : cs6.all (·.oneCell') = true)
    (hyl : YieldsIf P #[o0, o1, o2, o3, o4, o5, o6, o7, o8, o9, o10, o11] (Kept [b5, b6] w) o11 v11 A10)
    (h : ∀ w1, Kept [] w w1 → Q .normal A11 ((w1.setRow b5 cs5).setRow b6 cs6)) :
    (Code.region id #[o0, o1, o2, o3, o4, o5, o6, o7, o8, o9, o10, o11] true).wp P Q a w := by
  subst p0 p1 p2 p4 p5 p6 p8 p3 p7 p9 p10 p11
  have hS : Kept [b5, b6] w w.drew := (Kept.refl [b5, b6] w).drew
  have k00 : Kept [] w w.drew := (Kept.refl [] w).drew
  refine wp_region_noPanic ?_
  refine wp_region_held_drew (S := Kept [b5, b6] w) hm hS (fun hH => ?_)
  show wpAnyH P .any #[o0, o1, o2, o3, o4, o5, o6, o7, o8, o9, o10, o11] (NoPanic Q) (Kept [b5, b6] w) 12 #[false, false, false, false, false, false, false, false, false, false, false, false] a w.drew
  refine wpAnyH_take (i := 0) (oi := o0) rfl hs f0 r0 (fun _ _ _ h => h) hy0 hS ?_
  refine wpAnyH_take (i := 1) (oi := o1) rfl hs f1 r1 (fun _ _ _ h => h) hy1 hS ?_
  refine wpAnyH_take (i := 2) (oi := o2) rfl hs f2 r2 (fun _ _ _ h => h) hy2 hS ?_
  refine wpAnyH_take (i := 4) (oi := o4) rfl hs f4 r4 (fun _ _ _ h => h) hy4 hS ?_
  refine wpAnyH_take (i := 5) (oi := o5) rfl hs f5 r5 (fun _ _ _ h => h) hy5 hS ?_
  refine wpAnyH_take (i := 6) (oi := o6) rfl hs f6 r6 (fun _ _ _ h => h) hy6 hS ?_
  refine wpAnyH_take (i := 8) (oi := o8) rfl hs f8 r8 (fun _ _ _ h => h) hy8 hS ?_
  refine wpAnyH_ready (rs := [3]) r3 (by simp) (AllReadyH.cons (o := o3) rfl (fun K hK => ?_) AllReadyH.nil)
  have wa3 : ∀ y, Region.wanted o3 y = true := fun y => by unfold Region.wanted; rw [g3]
  rw [if_pos (wa3 _)]
  refine k3 w.drew k00 K (fun w3 q3 => ?_)
  have kk3 := k00.trans q3 (by simp)
  refine hK.out _ _ (kk3.mono (by simp)) (fun _ => ?_)
  refine wpAnyH_ready (rs := [7]) r7 (by simp) (AllReadyH.cons (o := o7) rfl (fun K hK => ?_) AllReadyH.nil)
  have wa7 : ∀ y, Region.wanted o7 y = true := fun y => by unfold Region.wanted; rw [g7]
  rw [if_pos (wa7 _)]
  refine k7 w3 kk3 K (fun w7 q7 => ?_)
  have kk7 := kk3.trans q7 (by simp)
  refine hK.out _ _ (kk7.mono (by simp)) (fun _ => ?_)
  have hg5' := kk7.heap hg5 (by simp)
  have hg6' := (setRow_other w7 b5 b6 cs5 (fun e => hne e.symm)).trans (kk7.heap hg6 (by simp))
  have hS5 : Kept [b5, b6] w (w7.setRow b5 cs5) := (kk7.mono (by simp)).setRow (Or.inl (by simp)) cs5
  have hS6 : Kept [b5, b6] w ((w7.setRow b5 cs5).setRow b6 cs6) := hS5.setRow (Or.inl (by simp)) cs6
  refine wpAnyH_ready (rs := [9]) r9 (by simp) (AllReadyH.cons (o := o9) rfl (fun K hK => ?_) AllReadyH.nil)
  have ws1 : ∀ y, Region.wanted o9 y = true := fun y => by unfold Region.wanted; rw [g9]
  rw [if_pos (ws1 _)]
  refine wp_store_row t5 x5 y5 h5 b5 cs5 e5 z5 u5 old5 hg5' i5 l5 n5 ?_
  refine hK.out _ _ hS5 (fun _ => ?_)
  refine wpAnyH_ready (rs := [10]) r10 (by simp) (AllReadyH.cons (o := o10) rfl (fun K hK => ?_) AllReadyH.nil)
  have ws2 : ∀ y, Region.wanted o10 y = true := fun y => by unfold Region.wanted; rw [g10]
  rw [if_pos (ws2 _)]
  refine wp_store_row t6 x6 y6 h6 b6 cs6 e6 z6 u6 old6 hg6' i6 l6 n6 ?_
  refine hK.out _ _ hS6 (fun _ => ?_)
  refine wpAnyH_take (i := 11) (oi := o11) rfl hs f11 r11 (fun _ _ _ h => h) hyl hS6 ?_
  exact ⟨rr, NoPanic.normal (h w7 kk7)⟩
end

theorem wp_node {o : Oper} {a : Act} {w : World} {K : Act → World → Prop} {Q : Exit → Act → World → Prop} (x0 x1 x2 : Operand) (ts : Array TypeId) (ho : o.op = .call { callee := .value (.func 47), args := #[x0, x1, x2], argTypes := ts }) (k : Nat) (l m : List Nat) (e0 : a.eval x0 = .int .i64 (k : Int)) (e1 : a.eval x1 = .agg (l.map u8).toArray) (e2 : a.eval x2 = .agg (m.map u8).toArray)
    (hk : 1 ≤ k ∧ k ≤ 32) (hl : Dg l) (hm : Dg m) (h : ∀ w1, Kept [] w w1 → K (a.put o.dst (.agg (brow (nodS k l m)))) w1) : o.wp Tryd.prog a w K Q := by
  unfold Oper.wp execOp
  simp only [ho]
  have hf : a.eval (.func 47) = .func (.func 47) #[] #[] := rfl
  have hcl : ∀ args W, (callFunc 47 args).run Tryd.prog W = .ok (.enter 47 args) W := fun args W => Tryd.call47 args W
  simp only [resolve, invoke, hf, e0, e1, e2, Sem.run_bind, Sem.run_pure, Result.andThen_ok, List.map_toArray, List.map_cons, List.map_nil, hcl]
  simp [Deferred.ofValue, hcl, go_sem]
  refine (refNode_any k l m w hk hl hm).mono ?_
  rintro e w2 ⟨rfl, k2⟩
  exact h w2 k2
end Go.Proofs.YthafpaenggcpdaaDoor
namespace Go.Proofs.YthafpaenggcpdaaDoor
open Go.RowKit Go.BigFrame
set_option linter.unusedVariables false
set_option linter.unusedSimpArgs false

theorem two_heaps {W w9 : World} {b5 b6 : Nat} {z5 z6 : Array Value} {t t' : TypeId} (k9 : Kept [] W w9) (hz : W.heap[b5]? = some (.cells z5 t (0, 0))) (hy : W.heap[b6]? = some (.cells z6 t' (0, 0))) (hne : b5 ≠ b6) (c5 c6 : Array Value) :
    ((w9.setRow b5 c5).setRow b6 c6).heap[b5]? = some (.cells c5 t (0, 0)) ∧ ((w9.setRow b5 c5).setRow b6 c6).heap[b6]? = some (.cells c6 t' (0, 0)) :=
  ⟨(setRow_other (w9.setRow b5 c5) b6 b5 c6 hne).trans (setRow_heap w9 b5 z5 c5 t (0, 0) (k9.heap hz (by simp))), setRow_heap (w9.setRow b5 c5) b6 z6 c6 t' (0, 0) ((setRow_other w9 b5 b6 c5 (fun e => hne e.symm)).trans (k9.heap hy (by simp)))⟩

set_option maxRecDepth 100000 in
set_option maxHeartbeats 8000000 in
theorem two_any (k : Nat) (old : List Nat) (hk : 1 ≤ k ∧ k ≤ 32) (ho : Dg old) : ∀ (rp : List (List Nat)) (m n : Nat) (b : Bool) (pv : Value) (w : World), 1 ≤ m → m ≤ n → n < 18446744073709551616 → RdD w pv rp.reverse →
    Calls Tryd.prog 30 #[.int .i64 k, .int .u64 m, .int .u64 n, .agg (brow old), pv, .bool b] w fun e w' => ∃ d1 d2, e = .returned (.tuple #[.agg (brow d1), .agg (brow d2), .bool (twD k old rp m n b).isSome]) ∧ Dg d1 ∧ Dg d2 ∧ (∀ x, twD k old rp m n b = some x → (d1, d2) = x) ∧ Kept [] w w' := by
  intro rp
  induction rp with
  | nil =>
    intro m n b pv w hm1 hmn hn hp
    obtain ⟨ao, len, cap, rfl, h1, h2, h3, h4, h5⟩ := hp
    have hlen : len = 0 := by simpa using h1.symm
    subst hlen
    clear h1 h2 h3 h4 h5
    have hol := ho.1
    have HSL := hide (by rw [List.length_map, hol]; exact Tryd.size_dig : (Tryd.prog.info? 23).map (·.size) = some (old.map u8).length)
    obtain ⟨F, hF⟩ : ∃ F, twD k old [] m n b = F := ⟨_, rfl⟩
    have HFF := hide hF
    rw [hF]
    clear hF
    go_enter Tryd.func30, Tryd.ntmps30
    have HGL := hide ((((Kept.refl [] (w.alloc (.cells (brow old) 23))).alloc (.cells (zb 32) 23)).alloc (.cells (zb 32) 23)).heap (heap_alloc_new w (.cells (brow old) 23)) (by simp))
    have HGZ := hide (((Kept.refl [] ((w.alloc (.cells (brow old) 23)).alloc (.cells (zb 32) 23))).alloc (.cells (zb 32) 23)).heap (alloc_at w (.cells (brow old) 23) (.cells (zb 32) 23)) (by simp))
    have HGY := hide (alloc3_at w (.cells (brow old) 23) (.cells (zb 32) 23) (.cells (zb 32) 23))
    have HK0 := hide ((((Kept.refl [] w).alloc (.cells (brow old) 23)).alloc (.cells (zb 32) 23)).alloc (.cells (zb 32) 23))
    by_cases h1 : m = n
    · have h1' : ((m : Int) == n) = true := by simp; omega
      cases b with
      | true =>
        have HC := hide (by rw [← unhide HFF]; simp [twD, h1] : F = some (old, old))
        have HBV := hide (by rw [unhide HC]; rfl : F.isSome = true)
        go_wp2_with fail
        rw [zb32]
        obtain ⟨W0, hW0⟩ : ∃ W0, ((w.alloc (.cells (brow old) 23)).alloc (.cells (zb 32) 23)).alloc (.cells (zb 32) 23) = W0 := ⟨_, rfl⟩
        rw [hW0] at HGL HGZ HGY HK0 ⊢
        have HZN := HGZ
        have HYN := HGY
        have HRO := hide (range_row (unhide HGL))
        clear hW0
        refine wp_r8 (w.heap.size + 1) (w.heap.size + 1 + 1) (by kernel_rfl) (by kernel_rfl) (by kernel_rfl) (by kernel_rfl) (by kernel_rfl) (by kernel_rfl) (by kernel_rfl) (by kernel_rfl) (by kernel_rfl) (by kernel_rfl) (by kernel_rfl) (by kernel_rfl) (by kernel_rfl) (by kernel_rfl) (by kernel_rfl) (by kernel_rfl) (by kernel_rfl) rfl rfl
          (.agg (old.map u8).toArray) (.agg (old.map u8).toArray) (.slice ao 0 cap) (.int .i64 0) (.bool true) (.bool true) _ _ _ _ _ _ _ _ (by simp only [Act.put, List.setIfInBounds_toArray, List.set_cons_zero, List.set_cons_succ]; rfl) (by simp only [Act.put, List.setIfInBounds_toArray, List.set_cons_zero, List.set_cons_succ]; rfl) (by simp only [Act.put, List.setIfInBounds_toArray, List.set_cons_zero, List.set_cons_succ]; rfl) (by simp only [Act.put, List.setIfInBounds_toArray, List.set_cons_zero, List.set_cons_succ]; rfl) (by simp only [Act.put, List.setIfInBounds_toArray, List.set_cons_zero, List.set_cons_succ]; rfl) (by simp only [Act.put, List.setIfInBounds_toArray, List.set_cons_zero, List.set_cons_succ]; rfl) (by simp only [Act.put, List.setIfInBounds_toArray, List.set_cons_zero, List.set_cons_succ]; rfl) (by simp only [Act.put, List.setIfInBounds_toArray, List.set_cons_zero, List.set_cons_succ]; rfl)
          (by exact yieldsIf_load_mid (by rfl) _ _ rfl w.heap.size 0 rfl (old.map u8) _ (fun W' hW' => range_kept (unhide HRO) hW' (by simp; omega)) Tryd.underlying23 rfl (unhide HSL))
          (by exact yieldsIf_load_mid (by rfl) _ _ rfl w.heap.size 0 rfl (old.map u8) _ (fun W' hW' => range_kept (unhide HRO) hW' (by simp; omega)) Tryd.underlying23 rfl (unhide HSL))
          (by exact Or.inl ⟨by rfl, fun W' hW' => by go_simp⟩)
          (by exact Or.inl ⟨by rfl, fun W' hW' => by go_simp⟩)
          (by exact Or.inl ⟨by rfl, fun W' hW' => by go_simp⟩)
          23 23 _ _ _ _ rfl rfl (brow old) (brow old) (zb 32) (zb 32) 23 23 (by omega)
          (by rfl) (by rfl) (unhide HZN) (by rw [brow_size, hol]; exact Tryd.size_dig) (by rw [zb_size, brow_size, hol]) (brow_one _)
          (by rfl) (by rfl) (unhide HYN) (by rw [brow_size, hol]; exact Tryd.size_dig) (by rw [zb_size, brow_size, hol]) (brow_one _)
          (by exact Or.inl ⟨by rfl, fun W' hW' => by go_simp⟩) ?_
        intro w9 k9
        have HH := hide (two_heaps k9 (unhide HZN) (unhide HYN) (by omega) (brow old) (brow old))
        have HK9 := hide ((((unhide HK0).trans k9 (by simp)).setRow (g := w.heap.size + 1) (Or.inr (by omega)) (brow old)).setRow (g := w.heap.size + 1 + 1) (Or.inr (by omega)) (brow old))
        clear k9
        go_wp2_with fail
        refine bodyPost_ret (v := .tuple #[.agg (brow old), .agg (brow old), .bool true]) ?_ rfl ⟨old, old, by rw [unhide HBV], ho, ho, (fun y hy => by rw [unhide HC] at hy; cases hy; rfl), unhide HK9⟩
        exact results_cell_cell_tmp rfl _ _ (w.heap.size + 1) (w.heap.size + 1 + 1) _ _ (brow old) (brow old) (0, 0) (0, 0) _ _ rfl (unhide HH).1 rfl (unhide HH).2 Tryd.underlying23 rfl (by rw [brow_size, hol]; exact Tryd.size_dig) Tryd.underlying23 rfl (by rw [brow_size, hol]; exact Tryd.size_dig) _ rfl
      | false =>
        have HC := hide (by rw [← unhide HFF]; simp [twD] : F = none)
        have HBV := hide (by rw [unhide HC]; rfl : F.isSome = false)
        go_wp2_with fail
        rw [zb32]
        obtain ⟨W0, hW0⟩ : ∃ W0, ((w.alloc (.cells (brow old) 23)).alloc (.cells (zb 32) 23)).alloc (.cells (zb 32) 23) = W0 := ⟨_, rfl⟩
        rw [hW0] at HGL HGZ HGY HK0 ⊢
        have HZN := HGZ
        have HYN := HGY
        have HRO := hide (range_row (unhide HGL))
        clear hW0
        refine wp_r5 (w.heap.size + 1) (w.heap.size + 1 + 1) (by kernel_rfl) (by kernel_rfl) (by kernel_rfl) (by kernel_rfl) (by kernel_rfl) (by kernel_rfl) (by kernel_rfl) (by kernel_rfl) (by kernel_rfl) (by kernel_rfl) (by kernel_rfl) rfl rfl
          (.agg (old.map u8).toArray) (.agg (old.map u8).toArray) (.bool false) _ _ _ _ _ (by simp only [Act.put, List.setIfInBounds_toArray, List.set_cons_zero, List.set_cons_succ]; rfl) (by simp only [Act.put, List.setIfInBounds_toArray, List.set_cons_zero, List.set_cons_succ]; rfl) (by simp only [Act.put, List.setIfInBounds_toArray, List.set_cons_zero, List.set_cons_succ]; rfl) (by simp only [Act.put, List.setIfInBounds_toArray, List.set_cons_zero, List.set_cons_succ]; rfl) (by simp only [Act.put, List.setIfInBounds_toArray, List.set_cons_zero, List.set_cons_succ]; rfl)
          (by exact yieldsIf_load_mid (by rfl) _ _ rfl w.heap.size 0 rfl (old.map u8) _ (fun W' hW' => range_kept (unhide HRO) hW' (by simp; omega)) Tryd.underlying23 rfl (unhide HSL))
          (by exact yieldsIf_load_mid (by rfl) _ _ rfl w.heap.size 0 rfl (old.map u8) _ (fun W' hW' => range_kept (unhide HRO) hW' (by simp; omega)) Tryd.underlying23 rfl (unhide HSL))
          23 23 _ _ _ _ rfl rfl (brow old) (brow old) (zb 32) (zb 32) 23 23 (by omega)
          (by rfl) (by rfl) (unhide HZN) (by rw [brow_size, hol]; exact Tryd.size_dig) (by rw [zb_size, brow_size, hol]) (brow_one _)
          (by rfl) (by rfl) (unhide HYN) (by rw [brow_size, hol]; exact Tryd.size_dig) (by rw [zb_size, brow_size, hol]) (brow_one _)
          (by exact Or.inl ⟨by rfl, fun W' hW' => by go_simp⟩) ?_
        intro w9 k9
        have HH := hide (two_heaps k9 (unhide HZN) (unhide HYN) (by omega) (brow old) (brow old))
        have HK9 := hide ((((unhide HK0).trans k9 (by simp)).setRow (g := w.heap.size + 1) (Or.inr (by omega)) (brow old)).setRow (g := w.heap.size + 1 + 1) (Or.inr (by omega)) (brow old))
        clear k9
        go_wp2_with fail
        refine bodyPost_ret (v := .tuple #[.agg (brow old), .agg (brow old), .bool false]) ?_ rfl ⟨old, old, by rw [unhide HBV], ho, ho, (fun y hy => by rw [unhide HC] at hy; cases hy), unhide HK9⟩
        exact results_cell_cell_tmp rfl _ _ (w.heap.size + 1) (w.heap.size + 1 + 1) _ _ (brow old) (brow old) (0, 0) (0, 0) _ _ rfl (unhide HH).1 rfl (unhide HH).2 Tryd.underlying23 rfl (by rw [brow_size, hol]; exact Tryd.size_dig) Tryd.underlying23 rfl (by rw [brow_size, hol]; exact Tryd.size_dig) _ rfl
    · have h1' : ((m : Int) == n) = false := by simp; omega
      have HC := hide (by rw [← unhide HFF]; simp [twD, h1] : F = none)
      have HBV := hide (by rw [unhide HC]; rfl : F.isSome = false)
      go_wp2_with fail
      rw [zb32]
      obtain ⟨W0, hW0⟩ : ∃ W0, ((w.alloc (.cells (brow old) 23)).alloc (.cells (zb 32) 23)).alloc (.cells (zb 32) 23) = W0 := ⟨_, rfl⟩
      rw [hW0] at HGL HGZ HGY HK0 ⊢
      have HZN := HGZ
      have HYN := HGY
      have HRO := hide (range_row (unhide HGL))
      clear hW0
      refine wp_r5 (w.heap.size + 1) (w.heap.size + 1 + 1) (by kernel_rfl) (by kernel_rfl) (by kernel_rfl) (by kernel_rfl) (by kernel_rfl) (by kernel_rfl) (by kernel_rfl) (by kernel_rfl) (by kernel_rfl) (by kernel_rfl) (by kernel_rfl) rfl rfl
        (.agg (old.map u8).toArray) (.agg (old.map u8).toArray) (.bool false) _ _ _ _ _ (by simp only [Act.put, List.setIfInBounds_toArray, List.set_cons_zero, List.set_cons_succ]; rfl) (by simp only [Act.put, List.setIfInBounds_toArray, List.set_cons_zero, List.set_cons_succ]; rfl) (by simp only [Act.put, List.setIfInBounds_toArray, List.set_cons_zero, List.set_cons_succ]; rfl) (by simp only [Act.put, List.setIfInBounds_toArray, List.set_cons_zero, List.set_cons_succ]; rfl) (by simp only [Act.put, List.setIfInBounds_toArray, List.set_cons_zero, List.set_cons_succ]; rfl)
        (by exact yieldsIf_load_mid (by rfl) _ _ rfl w.heap.size 0 rfl (old.map u8) _ (fun W' hW' => range_kept (unhide HRO) hW' (by simp; omega)) Tryd.underlying23 rfl (unhide HSL))
        (by exact yieldsIf_load_mid (by rfl) _ _ rfl w.heap.size 0 rfl (old.map u8) _ (fun W' hW' => range_kept (unhide HRO) hW' (by simp; omega)) Tryd.underlying23 rfl (unhide HSL))
        23 23 _ _ _ _ rfl rfl (brow old) (brow old) (zb 32) (zb 32) 23 23 (by omega)
        (by rfl) (by rfl) (unhide HZN) (by rw [brow_size, hol]; exact Tryd.size_dig) (by rw [zb_size, brow_size, hol]) (brow_one _)
        (by rfl) (by rfl) (unhide HYN) (by rw [brow_size, hol]; exact Tryd.size_dig) (by rw [zb_size, brow_size, hol]) (brow_one _)
        (by exact Or.inl ⟨by rfl, fun W' hW' => by go_simp⟩) ?_
      intro w9 k9
      have HH := hide (two_heaps k9 (unhide HZN) (unhide HYN) (by omega) (brow old) (brow old))
      have HK9 := hide ((((unhide HK0).trans k9 (by simp)).setRow (g := w.heap.size + 1) (Or.inr (by omega)) (brow old)).setRow (g := w.heap.size + 1 + 1) (Or.inr (by omega)) (brow old))
      clear k9
      go_wp2_with fail
      refine bodyPost_ret (v := .tuple #[.agg (brow old), .agg (brow old), .bool false]) ?_ rfl ⟨old, old, by rw [unhide HBV], ho, ho, (fun y hy => by rw [unhide HC] at hy; cases hy), unhide HK9⟩
      exact results_cell_cell_tmp rfl _ _ (w.heap.size + 1) (w.heap.size + 1 + 1) _ _ (brow old) (brow old) (0, 0) (0, 0) _ _ rfl (unhide HH).1 rfl (unhide HH).2 Tryd.underlying23 rfl (by rw [brow_size, hol]; exact Tryd.size_dig) Tryd.underlying23 rfl (by rw [brow_size, hol]; exact Tryd.size_dig) _ rfl
  | cons x r ih =>
    intro m n b pv w hm1 hmn hn hp
    have HP := hide hp
    obtain ⟨ao, len, cap, rfl, h1, h2, h3, h4, h5⟩ := hp
    have hlen : len = r.length + 1 := by rw [← h1]; simp
    subst hlen
    have H5 := hide h5
    clear h1 h4 h5
    have hol := ho.1
    have HX := hide ((unhide HP).dg (show x ∈ (x :: r).reverse by simp))
    have hxl := (unhide HX).1
    have HSX1 := hide (by rw [List.length_map, hxl]; exact Tryd.size_dig : (Tryd.prog.info? 23).map (·.size) = some (x.map u8).length)
    have HSL := hide (by rw [List.length_map, hol]; exact Tryd.size_dig : (Tryd.prog.info? 23).map (·.size) = some (old.map u8).length)
    obtain ⟨F, hF⟩ : ∃ F, twD k old (x :: r) m n b = F := ⟨_, rfl⟩
    have HFF := hide hF
    rw [hF]
    clear hF
    go_enter Tryd.func30, Tryd.ntmps30
    have HGL := hide ((((Kept.refl [] (w.alloc (.cells (brow old) 23))).alloc (.cells (zb 32) 23)).alloc (.cells (zb 32) 23)).heap (heap_alloc_new w (.cells (brow old) 23)) (by simp))
    have HGZ := hide (((Kept.refl [] ((w.alloc (.cells (brow old) 23)).alloc (.cells (zb 32) 23))).alloc (.cells (zb 32) 23)).heap (alloc_at w (.cells (brow old) 23) (.cells (zb 32) 23)) (by simp))
    have HGY := hide (alloc3_at w (.cells (brow old) 23) (.cells (zb 32) 23) (.cells (zb 32) 23))
    have HK0 := hide ((((Kept.refl [] w).alloc (.cells (brow old) 23)).alloc (.cells (zb 32) 23)).alloc (.cells (zb 32) 23))
    by_cases h1 : m = n
    · have h1' : ((m : Int) == n) = true := by simp; omega
      cases b with
      | true =>
        have hne : (((r.length : Int) + 1) == 0) = false := by simp; omega
        have HC := hide (by rw [← unhide HFF]; simp [twD, h1] : F = none)
        have HBV := hide (by rw [unhide HC]; rfl : F.isSome = false)
        go_wp2_with fail
        rw [zb32]
        obtain ⟨W0, hW0⟩ : ∃ W0, ((w.alloc (.cells (brow old) 23)).alloc (.cells (zb 32) 23)).alloc (.cells (zb 32) 23) = W0 := ⟨_, rfl⟩
        rw [hW0] at HGL HGZ HGY HK0 ⊢
        have HZN := HGZ
        have HYN := HGY
        have HRO := hide (range_row (unhide HGL))
        clear hW0
        refine wp_r8 (w.heap.size + 1) (w.heap.size + 1 + 1) (by kernel_rfl) (by kernel_rfl) (by kernel_rfl) (by kernel_rfl) (by kernel_rfl) (by kernel_rfl) (by kernel_rfl) (by kernel_rfl) (by kernel_rfl) (by kernel_rfl) (by kernel_rfl) (by kernel_rfl) (by kernel_rfl) (by kernel_rfl) (by kernel_rfl) (by kernel_rfl) (by kernel_rfl) rfl rfl
          (.agg (old.map u8).toArray) (.agg (old.map u8).toArray) (.slice ao (r.length + 1) cap) (.int .i64 ((r.length : Int) + 1)) (.bool false) (.bool false) _ _ _ _ _ _ _ _ (by simp only [Act.put, List.setIfInBounds_toArray, List.set_cons_zero, List.set_cons_succ]; rfl) (by simp only [Act.put, List.setIfInBounds_toArray, List.set_cons_zero, List.set_cons_succ]; rfl) (by simp only [Act.put, List.setIfInBounds_toArray, List.set_cons_zero, List.set_cons_succ]; rfl) (by simp only [Act.put, List.setIfInBounds_toArray, List.set_cons_zero, List.set_cons_succ]; rfl) (by simp only [Act.put, List.setIfInBounds_toArray, List.set_cons_zero, List.set_cons_succ]; rfl) (by simp only [Act.put, List.setIfInBounds_toArray, List.set_cons_zero, List.set_cons_succ]; rfl) (by simp only [Act.put, List.setIfInBounds_toArray, List.set_cons_zero, List.set_cons_succ]; rfl) (by simp only [Act.put, List.setIfInBounds_toArray, List.set_cons_zero, List.set_cons_succ]; rfl)
          (by exact yieldsIf_load_mid (by rfl) _ _ rfl w.heap.size 0 rfl (old.map u8) _ (fun W' hW' => range_kept (unhide HRO) hW' (by simp; omega)) Tryd.underlying23 rfl (unhide HSL))
          (by exact yieldsIf_load_mid (by rfl) _ _ rfl w.heap.size 0 rfl (old.map u8) _ (fun W' hW' => range_kept (unhide HRO) hW' (by simp; omega)) Tryd.underlying23 rfl (unhide HSL))
          (by exact Or.inl ⟨by rfl, fun W' hW' => by go_simp⟩)
          (by exact Or.inl ⟨by rfl, fun W' hW' => by go_simp⟩)
          (by exact Or.inl ⟨by rfl, fun W' hW' => by go_simp⟩)
          23 23 _ _ _ _ rfl rfl (brow old) (brow old) (zb 32) (zb 32) 23 23 (by omega)
          (by rfl) (by rfl) (unhide HZN) (by rw [brow_size, hol]; exact Tryd.size_dig) (by rw [zb_size, brow_size, hol]) (brow_one _)
          (by rfl) (by rfl) (unhide HYN) (by rw [brow_size, hol]; exact Tryd.size_dig) (by rw [zb_size, brow_size, hol]) (brow_one _)
          (by exact Or.inl ⟨by rfl, fun W' hW' => by go_simp⟩) ?_
        intro w9 k9
        have HH := hide (two_heaps k9 (unhide HZN) (unhide HYN) (by omega) (brow old) (brow old))
        have HK9 := hide ((((unhide HK0).trans k9 (by simp)).setRow (g := w.heap.size + 1) (Or.inr (by omega)) (brow old)).setRow (g := w.heap.size + 1 + 1) (Or.inr (by omega)) (brow old))
        clear k9
        go_wp2_with fail
        refine bodyPost_ret (v := .tuple #[.agg (brow old), .agg (brow old), .bool false]) ?_ rfl ⟨old, old, by rw [unhide HBV], ho, ho, (fun y hy => by rw [unhide HC] at hy; cases hy), unhide HK9⟩
        exact results_cell_cell_tmp rfl _ _ (w.heap.size + 1) (w.heap.size + 1 + 1) _ _ (brow old) (brow old) (0, 0) (0, 0) _ _ rfl (unhide HH).1 rfl (unhide HH).2 Tryd.underlying23 rfl (by rw [brow_size, hol]; exact Tryd.size_dig) Tryd.underlying23 rfl (by rw [brow_size, hol]; exact Tryd.size_dig) _ rfl
      | false =>
        by_cases hr : r.length = 0
        · have hr1 : (((r.length : Int) + 1) != 1) = false := by simp; omega
          have hr0 : (0 : Int) < (r.length : Int) + 1 := by omega
          have hre : r = [] := List.eq_nil_of_length_eq_zero hr
          obtain ⟨b0, off, rfl, hcell⟩ := unhide H5 (by omega)
          have HRX0 := hide (by have := hcell 0 (by omega); rw [hre] at this; simpa using this : w.rangeAt b0 off (x.map u8))
          have hb0 : b0 < w.heap.size := by
            have h9 := unhide HRX0 0 (u8 (x.getD 0 0)) (by rw [List.getElem?_map, List.getD_eq_getElem?_getD, List.getElem?_eq_getElem (show 0 < x.length by omega)]; rfl)
            exact block_lt_of_cell h9
          clear hcell
          have HC := hide (by rw [← unhide HFF]; simp [twD, h1, hre] : F = some (x, x))
          have HBV := hide (by rw [unhide HC]; rfl : F.isSome = true)
          go_wp2_with fail
          rw [zb32]
          obtain ⟨W0, hW0⟩ : ∃ W0, ((w.alloc (.cells (brow old) 23)).alloc (.cells (zb 32) 23)).alloc (.cells (zb 32) 23) = W0 := ⟨_, rfl⟩
          rw [hW0] at HGL HGZ HGY HK0 ⊢
          have HZN := HGZ
          have HYN := HGY
          have HRO := hide (range_row (unhide HGL))
          clear hW0
          have HRX := hide (range_kept (unhide HRX0) (unhide HK0) (by simp))
          refine wp_r9 (w.heap.size + 1) (w.heap.size + 1 + 1) (by kernel_rfl) (by kernel_rfl) (by kernel_rfl) (by kernel_rfl) (by kernel_rfl) (by kernel_rfl) (by kernel_rfl) (by kernel_rfl) (by kernel_rfl) (by kernel_rfl) (by kernel_rfl) (by kernel_rfl) (by kernel_rfl) (by kernel_rfl) (by kernel_rfl) (by kernel_rfl) (by kernel_rfl) (by kernel_rfl) (by kernel_rfl) rfl rfl
            (.slice (some ⟨b0, off, none⟩) (r.length + 1) cap) (.pointer (some ⟨b0, off, none⟩)) (.agg (x.map u8).toArray) (.slice (some ⟨b0, off, none⟩) (r.length + 1) cap) (.pointer (some ⟨b0, off, none⟩)) (.agg (x.map u8).toArray) (.bool true) _ _ _ _ _ _ _ _ _ (by simp only [Act.put, List.setIfInBounds_toArray, List.set_cons_zero, List.set_cons_succ]; rfl) (by simp only [Act.put, List.setIfInBounds_toArray, List.set_cons_zero, List.set_cons_succ]; rfl) (by simp only [Act.put, List.setIfInBounds_toArray, List.set_cons_zero, List.set_cons_succ]; rfl) (by simp only [Act.put, List.setIfInBounds_toArray, List.set_cons_zero, List.set_cons_succ]; rfl) (by simp only [Act.put, List.setIfInBounds_toArray, List.set_cons_zero, List.set_cons_succ]; rfl) (by simp only [Act.put, List.setIfInBounds_toArray, List.set_cons_zero, List.set_cons_succ]; rfl) (by simp only [Act.put, List.setIfInBounds_toArray, List.set_cons_zero, List.set_cons_succ]; rfl) (by simp only [Act.put, List.setIfInBounds_toArray, List.set_cons_zero, List.set_cons_succ]; rfl) (by simp only [Act.put, List.setIfInBounds_toArray, List.set_cons_zero, List.set_cons_succ]; rfl)
            (by exact Or.inl ⟨by rfl, fun W' hW' => by go_simp⟩)
            (by exact Or.inl ⟨by rfl, fun W' hW' => by go_simp⟩)
            (by exact yieldsIf_load_mid (by rfl) _ _ rfl b0 off rfl (x.map u8) _ (fun W' hW' => range_kept (unhide HRX) hW' (by simp; omega)) Tryd.underlying23 rfl (unhide HSX1))
            (by exact Or.inl ⟨by rfl, fun W' hW' => by go_simp⟩)
            (by exact Or.inl ⟨by rfl, fun W' hW' => by go_simp⟩)
            (by exact yieldsIf_load_mid (by rfl) _ _ rfl b0 off rfl (x.map u8) _ (fun W' hW' => range_kept (unhide HRX) hW' (by simp; omega)) Tryd.underlying23 rfl (unhide HSX1))
            23 23 _ _ _ _ rfl rfl (brow x) (brow x) (zb 32) (zb 32) 23 23 (by omega)
            (by rfl) (by rfl) (unhide HZN) (by rw [brow_size, hxl]; exact Tryd.size_dig) (by rw [zb_size, brow_size, hxl]) (brow_one _)
            (by rfl) (by rfl) (unhide HYN) (by rw [brow_size, hxl]; exact Tryd.size_dig) (by rw [zb_size, brow_size, hxl]) (brow_one _)
            (by exact Or.inl ⟨by rfl, fun W' hW' => by go_simp⟩) ?_
          intro w9 k9
          have HH := hide (two_heaps k9 (unhide HZN) (unhide HYN) (by omega) (brow x) (brow x))
          have HK9 := hide ((((unhide HK0).trans k9 (by simp)).setRow (g := w.heap.size + 1) (Or.inr (by omega)) (brow x)).setRow (g := w.heap.size + 1 + 1) (Or.inr (by omega)) (brow x))
          clear k9
          go_wp2_with fail
          refine bodyPost_ret (v := .tuple #[.agg (brow x), .agg (brow x), .bool true]) ?_ rfl ⟨x, x, by rw [unhide HBV], (unhide HX), (unhide HX), (fun y hy => by rw [unhide HC] at hy; cases hy; rfl), unhide HK9⟩
          exact results_cell_cell_tmp rfl _ _ (w.heap.size + 1) (w.heap.size + 1 + 1) _ _ (brow x) (brow x) (0, 0) (0, 0) _ _ rfl (unhide HH).1 rfl (unhide HH).2 Tryd.underlying23 rfl (by rw [brow_size, hxl]; exact Tryd.size_dig) Tryd.underlying23 rfl (by rw [brow_size, hxl]; exact Tryd.size_dig) _ rfl
        · have hr1 : (((r.length : Int) + 1) != 1) = true := by simp; omega
          have hre : r ≠ [] := fun e => hr (by rw [e]; rfl)
          have HC := hide (by rw [← unhide HFF]; simp [twD, h1, hre] : F = none)
          have HBV := hide (by rw [unhide HC]; rfl : F.isSome = false)
          go_wp2_with fail
          rw [zb32]
          obtain ⟨W0, hW0⟩ : ∃ W0, ((w.alloc (.cells (brow old) 23)).alloc (.cells (zb 32) 23)).alloc (.cells (zb 32) 23) = W0 := ⟨_, rfl⟩
          rw [hW0] at HGL HGZ HGY HK0 ⊢
          have HZN := HGZ
          have HYN := HGY
          have HRO := hide (range_row (unhide HGL))
          clear hW0
          refine wp_r5 (w.heap.size + 1) (w.heap.size + 1 + 1) (by kernel_rfl) (by kernel_rfl) (by kernel_rfl) (by kernel_rfl) (by kernel_rfl) (by kernel_rfl) (by kernel_rfl) (by kernel_rfl) (by kernel_rfl) (by kernel_rfl) (by kernel_rfl) rfl rfl
            (.agg (old.map u8).toArray) (.agg (old.map u8).toArray) (.bool false) _ _ _ _ _ (by simp only [Act.put, List.setIfInBounds_toArray, List.set_cons_zero, List.set_cons_succ]; rfl) (by simp only [Act.put, List.setIfInBounds_toArray, List.set_cons_zero, List.set_cons_succ]; rfl) (by simp only [Act.put, List.setIfInBounds_toArray, List.set_cons_zero, List.set_cons_succ]; rfl) (by simp only [Act.put, List.setIfInBounds_toArray, List.set_cons_zero, List.set_cons_succ]; rfl) (by simp only [Act.put, List.setIfInBounds_toArray, List.set_cons_zero, List.set_cons_succ]; rfl)
            (by exact yieldsIf_load_mid (by rfl) _ _ rfl w.heap.size 0 rfl (old.map u8) _ (fun W' hW' => range_kept (unhide HRO) hW' (by simp; omega)) Tryd.underlying23 rfl (unhide HSL))
            (by exact yieldsIf_load_mid (by rfl) _ _ rfl w.heap.size 0 rfl (old.map u8) _ (fun W' hW' => range_kept (unhide HRO) hW' (by simp; omega)) Tryd.underlying23 rfl (unhide HSL))
            23 23 _ _ _ _ rfl rfl (brow old) (brow old) (zb 32) (zb 32) 23 23 (by omega)
            (by rfl) (by rfl) (unhide HZN) (by rw [brow_size, hol]; exact Tryd.size_dig) (by rw [zb_size, brow_size, hol]) (brow_one _)
            (by rfl) (by rfl) (unhide HYN) (by rw [brow_size, hol]; exact Tryd.size_dig) (by rw [zb_size, brow_size, hol]) (brow_one _)
            (by exact Or.inl ⟨by rfl, fun W' hW' => by go_simp⟩) ?_
          intro w9 k9
          have HH := hide (two_heaps k9 (unhide HZN) (unhide HYN) (by omega) (brow old) (brow old))
          have HK9 := hide ((((unhide HK0).trans k9 (by simp)).setRow (g := w.heap.size + 1) (Or.inr (by omega)) (brow old)).setRow (g := w.heap.size + 1 + 1) (Or.inr (by omega)) (brow old))
          clear k9
          go_wp2_with fail
          refine bodyPost_ret (v := .tuple #[.agg (brow old), .agg (brow old), .bool false]) ?_ rfl ⟨old, old, by rw [unhide HBV], ho, ho, (fun y hy => by rw [unhide HC] at hy; cases hy), unhide HK9⟩
          exact results_cell_cell_tmp rfl _ _ (w.heap.size + 1) (w.heap.size + 1 + 1) _ _ (brow old) (brow old) (0, 0) (0, 0) _ _ rfl (unhide HH).1 rfl (unhide HH).2 Tryd.underlying23 rfl (by rw [brow_size, hol]; exact Tryd.size_dig) Tryd.underlying23 rfl (by rw [brow_size, hol]; exact Tryd.size_dig) _ rfl
    · have h1' : ((m : Int) == n) = false := by simp; omega
      have hne : (((r.length : Int) + 1) == 0) = false := by simp; omega
      go_wp2_with fail
      refine Calls.mono (ended_any _ (x :: r).reverse r x _ ((unhide HP).old (unhide HK0)) (by simp)) ?_
      rintro e w1 ⟨u1, rfl, d1, k1⟩
      have HD1 := hide d1
      have HG1 := hide (k1.heap (unhide HGL) (by simp))
      have HZ1 := hide (k1.heap (unhide HGZ) (by simp))
      have HY1 := hide (k1.heap (unhide HGY) (by simp))
      have HK1 := hide ((unhide HK0).trans k1 (by simp))
      obtain ⟨a1, n1, c1, rfl, _⟩ := id d1
      clear d1 k1 HGL HGZ HGY
      have HNE0 := hide (by have h8 := lt_of_heap (unhide HY1); omega : w1.heap.size ≠ w.heap.size + 1 ∧ w1.heap.size ≠ w.heap.size + 1 + 1)
      have HXW := hide (setRow_heap (w1.alloc (.cells (zb 32) 23)) w1.heap.size (zb 32) (brow x) 23 (0, 0) (heap_alloc_new _ _))
      have k2 := ((Kept.refl [] w1).alloc (.cells (zb 32) 23)).setRow (g := w1.heap.size) (Or.inr (Nat.le_refl _)) (brow x)
      have HSX := hide (by rw [brow_size, hxl]; exact Tryd.size_dig : (Tryd.prog.info? 23).map (·.size) = some (brow x).size)
      have HSXL := hide (by rw [List.length_map, hxl]; exact Tryd.size_dig : (Tryd.prog.info? 23).map (·.size) = some (x.map u8).length)
      have HSL := hide (by rw [List.length_map, hol]; exact Tryd.size_dig : (Tryd.prog.info? 23).map (·.size) = some (old.map u8).length)
      have HD2 := hide ((unhide HD1).old k2)
      have HG2 := hide (k2.heap (unhide HG1) (by simp))
      have HZ2 := hide (k2.heap (unhide HZ1) (by simp))
      have HY2 := hide (k2.heap (unhide HY1) (by simp))
      have HK2 := hide ((unhide HK1).trans k2 (by simp))
      clear k2 HD1 HG1 HZ1 HY1
      go_wp2_with (rw [zb32]; refine wpList_store_row rfl 23 _ _ rfl w1.heap.size (brow x) rfl rfl _ (zb 32) (heap_alloc_new _ _) (unhide HSX) (by rw [zb_size, brow_size, hxl]) (brow_one _) ?_)
      refine Calls.mono (refSplit_any n _ (by omega) hn) ?_
      rintro e w3 ⟨rfl, k3⟩
      have HX3 := hide (k3.heap (unhide HXW) (by simp))
      have HD3 := hide ((unhide HD2).old k3)
      have HG3 := hide (k3.heap (unhide HG2) (by simp))
      have HZ3 := hide (k3.heap (unhide HZ2) (by simp))
      have HY3 := hide (k3.heap (unhide HY2) (by simp))
      have HK3 := hide ((unhide HK2).trans k3 (by simp))
      clear k3 HXW HD2 HG2 HZ2 HY2
      have hk1 := spl_pos n
      have hk2 := spl_lt (n := n) (by omega)
      have HK12 := hide (unhide HK1).size
      have HNE := hide (unhide HNE0)
      by_cases hik : m ≤ spl n
      · have hik' : (m : Int) ≤ (spl n : Nat) := by omega
        have HC := hide (by rw [← unhide HFF]; conv => lhs; unfold twD; rw [if_neg h1, if_pos hik] : F = (twD k old r m (spl n) b).map (fun y => (y.1, nodS k y.2 x)))
        have IH := fun (w' : World) (h' : RdD w' (.slice a1 n1 c1) r.reverse) => ih m (spl n) b (.slice a1 n1 c1) w' hm1 hik (by omega) h'
        generalize twD k old r m (spl n) b = O at HC IH
        go_wp2_with (refine wpList_load_mid rfl 23 _ rfl w.heap.size 0 rfl (old.map u8) _ (range_row (unhide HG3)) Tryd.underlying23 rfl (unhide HSL) ?_)
        refine Calls.mono (IH _ (unhide HD3)) ?_
        rintro e w4 ⟨d4, d5, rfl, g4, g5, q4, k4⟩
        have H4 := hide g4
        have H5' := hide g5
        have HQ := hide q4
        have hl4 := g4.1
        have hl5 := g5.1
        have HS4 := hide (by rw [List.length_map, hl4]; exact Tryd.size_dig : (Tryd.prog.info? 23).map (·.size) = some (d4.map u8).length)
        have HS5 := hide (by rw [List.length_map, hl5]; exact Tryd.size_dig : (Tryd.prog.info? 23).map (·.size) = some (d5.map u8).length)
        have HA0 := hide (((Kept.refl [] (w4.alloc (.cells (zb 32) 23))).alloc (.cells (zb 32) 23)).heap (heap_alloc_new w4 (.cells (zb 32) 23)) (by simp))
        have HB0 := hide ((setRow_other ((w4.alloc (.cells (zb 32) 23)).alloc (.cells (zb 32) 23)) w4.heap.size (w4.heap.size + 1) (brow d4) (by omega)).trans (alloc_at w4 (.cells (zb 32) 23) (.cells (zb 32) 23)))
        have kab := ((((Kept.refl [] w4).alloc (.cells (zb 32) 23)).alloc (.cells (zb 32) 23)).setRow (g := w4.heap.size) (Or.inr (Nat.le_refl _)) (brow d4)).setRow (g := w4.heap.size + 1) (Or.inr (by omega)) (brow d5)
        have HA1 := hide (range_row ((setRow_other (((w4.alloc (.cells (zb 32) 23)).alloc (.cells (zb 32) 23)).setRow w4.heap.size (brow d4)) (w4.heap.size + 1) w4.heap.size (brow d5) (by omega)).trans (setRow_heap _ _ _ (brow d4) _ _ (unhide HA0))))
        have HB1 := hide (range_row (setRow_heap (((w4.alloc (.cells (zb 32) 23)).alloc (.cells (zb 32) 23)).setRow w4.heap.size (brow d4)) _ _ (brow d5) _ _ (unhide HB0)))
        have kk := k4.trans kab (by simp)
        have HZN := hide (kk.heap (unhide HZ3) (by simp))
        have HYN := hide (kk.heap (unhide HY3) (by simp))
        have HXN := hide (range_row (kk.heap (unhide HX3) (by simp)))
        have HKN := hide ((unhide HK3).trans kk (by simp))
        have hsz1 := (unhide HK12)
        have hsz4 : w.heap.size + 1 + 1 < w4.heap.size := by have := lt_of_heap (k4.heap (unhide HY3) (by simp)); omega
        have hszx : w1.heap.size ≠ w.heap.size + 1 ∧ w1.heap.size ≠ w.heap.size + 1 + 1 := unhide HNE
        clear k4 kab kk g4 g5 q4 HZ3 HY3 HX3 HD3 HG3 IH
        go_wp2_with (first
          | (rw [zb32]; refine wpList_store_row rfl 23 _ _ rfl w4.heap.size (brow d4) rfl rfl _ (zb 32) (unhide HA0) (by rw [brow_size, hl4]; exact Tryd.size_dig) (by rw [zb_size, brow_size, hl4]) (brow_one _) ?_)
          | (refine wpList_store_row rfl 23 _ _ rfl (w4.heap.size + 1) (brow d5) rfl rfl _ (zb 32) (unhide HB0) (by rw [brow_size, hl5]; exact Tryd.size_dig) (by rw [zb_size, brow_size, hl5]) (brow_one _) ?_))
        obtain ⟨Y, hY⟩ : ∃ Y, (((w4.alloc (.cells (zb 32) 23)).alloc (.cells (zb 32) 23)).setRow w4.heap.size (brow d4)).setRow (w4.heap.size + 1) (brow d5) = Y := ⟨_, rfl⟩
        rw [hY] at HA1 HB1 HZN HYN HXN HKN ⊢
        clear hY HA0 HB0
        have HBV := hide (by rw [unhide HC]; cases O <;> rfl : F.isSome = O.isSome)
        refine wp_r9c (w.heap.size + 1) (w.heap.size + 1 + 1) (by kernel_rfl) (by kernel_rfl) (by kernel_rfl) (by kernel_rfl) (by kernel_rfl) (by kernel_rfl) (by kernel_rfl) (by kernel_rfl) (by kernel_rfl) (by kernel_rfl) (by kernel_rfl) (by kernel_rfl) (by kernel_rfl) (by kernel_rfl) (by kernel_rfl) (by kernel_rfl) (by kernel_rfl) (by kernel_rfl) rfl rfl rfl
          (.agg (d4.map u8).toArray) (.int .i64 (k : Int)) (.agg (d5.map u8).toArray) (.agg (x.map u8).toArray) (.bool O.isSome) (.agg (brow (nodS k d5 x))) (.bool O.isSome) _ _ _ _ _ _ _ _ _ (by simp only [Act.put, List.setIfInBounds_toArray, List.set_cons_zero, List.set_cons_succ]; rfl) (by simp only [Act.put, List.setIfInBounds_toArray, List.set_cons_zero, List.set_cons_succ]; rfl) (by simp only [Act.put, List.setIfInBounds_toArray, List.set_cons_zero, List.set_cons_succ]; rfl) (by simp only [Act.put, List.setIfInBounds_toArray, List.set_cons_zero, List.set_cons_succ]; rfl) (by simp only [Act.put, List.setIfInBounds_toArray, List.set_cons_zero, List.set_cons_succ]; rfl) (by simp only [Act.put, List.setIfInBounds_toArray, List.set_cons_zero, List.set_cons_succ]; rfl) (by simp only [Act.put, List.setIfInBounds_toArray, List.set_cons_zero, List.set_cons_succ]; rfl) (by simp only [Act.put, List.setIfInBounds_toArray, List.set_cons_zero, List.set_cons_succ]; rfl) (by simp only [Act.put, List.setIfInBounds_toArray, List.set_cons_zero, List.set_cons_succ]; rfl)
          (by exact yieldsIf_load_mid (by rfl) _ _ rfl w4.heap.size 0 rfl (d4.map u8) _ (fun W' hW' => range_kept (unhide HA1) hW' (by simp; omega)) Tryd.underlying23 rfl (unhide HS4))
          (by exact Or.inl ⟨by rfl, fun W' hW' => by go_simp⟩)
          (by exact yieldsIf_load_mid (by rfl) _ _ rfl (w4.heap.size + 1) 0 rfl (d5.map u8) _ (fun W' hW' => range_kept (unhide HB1) hW' (by simp; omega)) Tryd.underlying23 rfl (unhide HS5))
          (by exact yieldsIf_load_mid (by rfl) _ _ rfl w1.heap.size 0 rfl (x.map u8) _ (fun W' hW' => range_kept (unhide HXN) hW' (by simp; omega)) Tryd.underlying23 rfl (unhide HSXL))
          (by exact Or.inl ⟨by rfl, fun W' hW' => by go_simp⟩)
          (by intro w0 hk0 K hK; exact wp_node (.tmp 76) (.tmp 77) (.tmp 78) _ rfl k d5 x rfl rfl rfl hk (unhide H5') (unhide HX) hK)
          23 23 _ _ _ _ rfl rfl (brow d4) (brow (nodS k d5 x)) (zb 32) (zb 32) 23 23 (by omega)
          (by rfl) (by rfl) (unhide HZN) (by rw [brow_size, hl4]; exact Tryd.size_dig) (by rw [zb_size, brow_size, hl4]) (brow_one _)
          (by rfl) (by rfl) (unhide HYN) (by rw [brow_size, (nodS_dg k d5 x).1]; exact Tryd.size_dig) (by rw [zb_size, brow_size, (nodS_dg k d5 x).1]) (brow_one _)
          (by exact Or.inl ⟨by rfl, fun W' hW' => by go_simp⟩) ?_
        intro w9 k9
        have HH := hide (two_heaps k9 (unhide HZN) (unhide HYN) (by omega) (brow d4) (brow (nodS k d5 x)))
        have HK9 := hide ((((unhide HKN).trans k9 (by simp)).setRow (g := w.heap.size + 1) (Or.inr (by omega)) (brow d4)).setRow (g := w.heap.size + 1 + 1) (Or.inr (by omega)) (brow (nodS k d5 x)))
        clear k9
        go_wp2_with fail
        refine bodyPost_ret (v := .tuple #[.agg (brow d4), .agg (brow (nodS k d5 x)), .bool O.isSome]) ?_ rfl ⟨d4, (nodS k d5 x), by rw [unhide HBV], (unhide H4), (nodS_dg k d5 x), (fun y hy => by rw [unhide HC] at hy; obtain ⟨u, hu, rfl⟩ := Option.map_eq_some_iff.1 hy; have h9 := unhide HQ u hu; rw [← h9]), unhide HK9⟩
        exact results_cell_cell_tmp rfl _ _ (w.heap.size + 1) (w.heap.size + 1 + 1) _ _ (brow d4) (brow (nodS k d5 x)) (0, 0) (0, 0) _ _ rfl (unhide HH).1 rfl (unhide HH).2 Tryd.underlying23 rfl (by rw [brow_size, hl4]; exact Tryd.size_dig) Tryd.underlying23 rfl (by rw [brow_size, (nodS_dg k d5 x).1]; exact Tryd.size_dig) _ rfl
      · have hik' : ¬ (m : Int) ≤ (spl n : Nat) := by omega
        have hs1 : ((m : Int) - (spl n : Nat)) = ((m - spl n : Nat) : Int) := by omega
        have hs2 : ((n : Int) - (spl n : Nat)) = ((n - spl n : Nat) : Int) := by omega
        have hb1 : ((spl n : Nat) : Int) ≤ m := by omega
        have hb2 : ((spl n : Nat) : Int) ≤ n := by omega
        have HC := hide (by rw [← unhide HFF]; conv => lhs; unfold twD; rw [if_neg h1, if_neg hik] : F = (twD k old r (m - spl n) (n - spl n) false).map (fun y => (nodS k x y.1, nodS k x y.2)))
        have IH := fun (w' : World) (h' : RdD w' (.slice a1 n1 c1) r.reverse) => ih (m - spl n) (n - spl n) false (.slice a1 n1 c1) w' (by omega) (by omega) (by omega) h'
        generalize twD k old r (m - spl n) (n - spl n) false = O at HC IH
        go_wp2_with (refine wpList_load_mid rfl 23 _ rfl w.heap.size 0 rfl (old.map u8) _ (range_row (unhide HG3)) Tryd.underlying23 rfl (unhide HSL) ?_)
        refine Calls.mono (IH _ (unhide HD3)) ?_
        rintro e w4 ⟨d4, d5, rfl, g4, g5, q4, k4⟩
        have H4 := hide g4
        have H5' := hide g5
        have HQ := hide q4
        have hl4 := g4.1
        have hl5 := g5.1
        have HS4 := hide (by rw [List.length_map, hl4]; exact Tryd.size_dig : (Tryd.prog.info? 23).map (·.size) = some (d4.map u8).length)
        have HS5 := hide (by rw [List.length_map, hl5]; exact Tryd.size_dig : (Tryd.prog.info? 23).map (·.size) = some (d5.map u8).length)
        have HA0 := hide (((Kept.refl [] (w4.alloc (.cells (zb 32) 23))).alloc (.cells (zb 32) 23)).heap (heap_alloc_new w4 (.cells (zb 32) 23)) (by simp))
        have HB0 := hide ((setRow_other ((w4.alloc (.cells (zb 32) 23)).alloc (.cells (zb 32) 23)) w4.heap.size (w4.heap.size + 1) (brow d4) (by omega)).trans (alloc_at w4 (.cells (zb 32) 23) (.cells (zb 32) 23)))
        have kab := ((((Kept.refl [] w4).alloc (.cells (zb 32) 23)).alloc (.cells (zb 32) 23)).setRow (g := w4.heap.size) (Or.inr (Nat.le_refl _)) (brow d4)).setRow (g := w4.heap.size + 1) (Or.inr (by omega)) (brow d5)
        have HA1 := hide (range_row ((setRow_other (((w4.alloc (.cells (zb 32) 23)).alloc (.cells (zb 32) 23)).setRow w4.heap.size (brow d4)) (w4.heap.size + 1) w4.heap.size (brow d5) (by omega)).trans (setRow_heap _ _ _ (brow d4) _ _ (unhide HA0))))
        have HB1 := hide (range_row (setRow_heap (((w4.alloc (.cells (zb 32) 23)).alloc (.cells (zb 32) 23)).setRow w4.heap.size (brow d4)) _ _ (brow d5) _ _ (unhide HB0)))
        have kk := k4.trans kab (by simp)
        have HZN := hide (kk.heap (unhide HZ3) (by simp))
        have HYN := hide (kk.heap (unhide HY3) (by simp))
        have HXN := hide (range_row (kk.heap (unhide HX3) (by simp)))
        have HKN := hide ((unhide HK3).trans kk (by simp))
        have hsz1 := (unhide HK12)
        have hsz4 : w.heap.size + 1 + 1 < w4.heap.size := by have := lt_of_heap (k4.heap (unhide HY3) (by simp)); omega
        have hszx : w1.heap.size ≠ w.heap.size + 1 ∧ w1.heap.size ≠ w.heap.size + 1 + 1 := unhide HNE
        clear k4 kab kk g4 g5 q4 HZ3 HY3 HX3 HD3 HG3 IH
        go_wp2_with (first
          | (rw [zb32]; refine wpList_store_row rfl 23 _ _ rfl w4.heap.size (brow d4) rfl rfl _ (zb 32) (unhide HA0) (by rw [brow_size, hl4]; exact Tryd.size_dig) (by rw [zb_size, brow_size, hl4]) (brow_one _) ?_)
          | (refine wpList_store_row rfl 23 _ _ rfl (w4.heap.size + 1) (brow d5) rfl rfl _ (zb 32) (unhide HB0) (by rw [brow_size, hl5]; exact Tryd.size_dig) (by rw [zb_size, brow_size, hl5]) (brow_one _) ?_))
        obtain ⟨Y, hY⟩ : ∃ Y, (((w4.alloc (.cells (zb 32) 23)).alloc (.cells (zb 32) 23)).setRow w4.heap.size (brow d4)).setRow (w4.heap.size + 1) (brow d5) = Y := ⟨_, rfl⟩
        rw [hY] at HA1 HB1 HZN HYN HXN HKN ⊢
        clear hY HA0 HB0
        have HBV := hide (by rw [unhide HC]; cases O <;> rfl : F.isSome = O.isSome)
        refine wp_r12c (w.heap.size + 1) (w.heap.size + 1 + 1) (by kernel_rfl) (by kernel_rfl) (by kernel_rfl) (by kernel_rfl) (by kernel_rfl) (by kernel_rfl) (by kernel_rfl) (by kernel_rfl) (by kernel_rfl) (by kernel_rfl) (by kernel_rfl) (by kernel_rfl) (by kernel_rfl) (by kernel_rfl) (by kernel_rfl) (by kernel_rfl) (by kernel_rfl) (by kernel_rfl) (by kernel_rfl) (by kernel_rfl) (by kernel_rfl) (by kernel_rfl) (by kernel_rfl) rfl rfl rfl rfl
          (.int .i64 (k : Int)) (.agg (x.map u8).toArray) (.agg (d4.map u8).toArray) (.int .i64 (k : Int)) (.agg (x.map u8).toArray) (.agg (d5.map u8).toArray) (.bool O.isSome) (.agg (brow (nodS k x d4))) (.agg (brow (nodS k x d5))) (.bool O.isSome) _ _ _ _ _ _ _ _ _ _ _ _ (by simp only [Act.put, List.setIfInBounds_toArray, List.set_cons_zero, List.set_cons_succ]; rfl) (by simp only [Act.put, List.setIfInBounds_toArray, List.set_cons_zero, List.set_cons_succ]; rfl) (by simp only [Act.put, List.setIfInBounds_toArray, List.set_cons_zero, List.set_cons_succ]; rfl) (by simp only [Act.put, List.setIfInBounds_toArray, List.set_cons_zero, List.set_cons_succ]; rfl) (by simp only [Act.put, List.setIfInBounds_toArray, List.set_cons_zero, List.set_cons_succ]; rfl) (by simp only [Act.put, List.setIfInBounds_toArray, List.set_cons_zero, List.set_cons_succ]; rfl) (by simp only [Act.put, List.setIfInBounds_toArray, List.set_cons_zero, List.set_cons_succ]; rfl) (by simp only [Act.put, List.setIfInBounds_toArray, List.set_cons_zero, List.set_cons_succ]; rfl) (by simp only [Act.put, List.setIfInBounds_toArray, List.set_cons_zero, List.set_cons_succ]; rfl) (by simp only [Act.put, List.setIfInBounds_toArray, List.set_cons_zero, List.set_cons_succ]; rfl) (by simp only [Act.put, List.setIfInBounds_toArray, List.set_cons_zero, List.set_cons_succ]; rfl) (by simp only [Act.put, List.setIfInBounds_toArray, List.set_cons_zero, List.set_cons_succ]; rfl)
          (by exact Or.inl ⟨by rfl, fun W' hW' => by go_simp⟩)
          (by exact yieldsIf_load_mid (by rfl) _ _ rfl w1.heap.size 0 rfl (x.map u8) _ (fun W' hW' => range_kept (unhide HXN) hW' (by simp; omega)) Tryd.underlying23 rfl (unhide HSXL))
          (by exact yieldsIf_load_mid (by rfl) _ _ rfl w4.heap.size 0 rfl (d4.map u8) _ (fun W' hW' => range_kept (unhide HA1) hW' (by simp; omega)) Tryd.underlying23 rfl (unhide HS4))
          (by exact Or.inl ⟨by rfl, fun W' hW' => by go_simp⟩)
          (by exact yieldsIf_load_mid (by rfl) _ _ rfl w1.heap.size 0 rfl (x.map u8) _ (fun W' hW' => range_kept (unhide HXN) hW' (by simp; omega)) Tryd.underlying23 rfl (unhide HSXL))
          (by exact yieldsIf_load_mid (by rfl) _ _ rfl (w4.heap.size + 1) 0 rfl (d5.map u8) _ (fun W' hW' => range_kept (unhide HB1) hW' (by simp; omega)) Tryd.underlying23 rfl (unhide HS5))
          (by exact Or.inl ⟨by rfl, fun W' hW' => by go_simp⟩)
          (by intro w0 hk0 K hK; exact wp_node (.tmp 95) (.tmp 96) (.tmp 97) _ rfl k x d4 rfl rfl rfl hk (unhide HX) (unhide H4) hK)
          (by intro w0 hk0 K hK; exact wp_node (.tmp 99) (.tmp 100) (.tmp 101) _ rfl k x d5 rfl rfl rfl hk (unhide HX) (unhide H5') hK)
          23 23 _ _ _ _ rfl rfl (brow (nodS k x d4)) (brow (nodS k x d5)) (zb 32) (zb 32) 23 23 (by omega)
          (by rfl) (by rfl) (unhide HZN) (by rw [brow_size, (nodS_dg k x d4).1]; exact Tryd.size_dig) (by rw [zb_size, brow_size, (nodS_dg k x d4).1]) (brow_one _)
          (by rfl) (by rfl) (unhide HYN) (by rw [brow_size, (nodS_dg k x d5).1]; exact Tryd.size_dig) (by rw [zb_size, brow_size, (nodS_dg k x d5).1]) (brow_one _)
          (by exact Or.inl ⟨by rfl, fun W' hW' => by go_simp⟩) ?_
        intro w9 k9
        have HH := hide (two_heaps k9 (unhide HZN) (unhide HYN) (by omega) (brow (nodS k x d4)) (brow (nodS k x d5)))
        have HK9 := hide ((((unhide HKN).trans k9 (by simp)).setRow (g := w.heap.size + 1) (Or.inr (by omega)) (brow (nodS k x d4))).setRow (g := w.heap.size + 1 + 1) (Or.inr (by omega)) (brow (nodS k x d5)))
        clear k9
        go_wp2_with fail
        refine bodyPost_ret (v := .tuple #[.agg (brow (nodS k x d4)), .agg (brow (nodS k x d5)), .bool O.isSome]) ?_ rfl ⟨(nodS k x d4), (nodS k x d5), by rw [unhide HBV], (nodS_dg k x d4), (nodS_dg k x d5), (fun y hy => by rw [unhide HC] at hy; obtain ⟨u, hu, rfl⟩ := Option.map_eq_some_iff.1 hy; have h9 := unhide HQ u hu; rw [← h9]), unhide HK9⟩
        exact results_cell_cell_tmp rfl _ _ (w.heap.size + 1) (w.heap.size + 1 + 1) _ _ (brow (nodS k x d4)) (brow (nodS k x d5)) (0, 0) (0, 0) _ _ rfl (unhide HH).1 rfl (unhide HH).2 Tryd.underlying23 rfl (by rw [brow_size, (nodS_dg k x d4).1]; exact Tryd.size_dig) Tryd.underlying23 rfl (by rw [brow_size, (nodS_dg k x d5).1]; exact Tryd.size_dig) _ rfl
end Go.Proofs.YthafpaenggcpdaaDoor
